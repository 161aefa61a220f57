package extent_test

import (
	"bytes"
	"fmt"
	"iter"
	"math/rand"
	"slices"
	"testing"

	"hollowtree/api"
	"hollowtree/disk"
	"hollowtree/extent"
)

// choices are all ways in which n pending writes can live on, as far as they are few; else all, none, each alone, each alone not, and some that are drawn.
func choices(r *rand.Rand, n int) iter.Seq[[]bool] {
	return func(yield func([]bool) bool) {
		if n <= 7 {
			for bits := range 1 << n {
				if !yield(picked(n, func(k int) bool { return bits>>k&1 == 1 })) {
					return
				}
			}
			return
		}
		for _, one := range []bool{false, true} {
			for which := range n + 1 {
				if !yield(picked(n, func(k int) bool { return (k == which) == one })) {
					return
				}
			}
		}
		for range 40 {
			if !yield(picked(n, func(int) bool { return r.Intn(2) == 0 })) {
				return
			}
		}
	}
}

func picked(n int, lives func(int) bool) []bool {
	keep := make([]bool, n)
	for k := range keep {
		keep[k] = lives(k)
	}
	return keep
}

// survives tells whether a choice lets a pending write of a sector live on.
func survives(d *disk.Disk, keep []bool, sector int) bool {
	for k, at := range d.Pending() {
		if at == sector && k < len(keep) && keep[k] {
			return true
		}
	}
	return false
}

// before is a disk of n sectors with a snapshot of some turn, and sectors of the log that are safe.
func before(t *testing.T, n, turns, length int) (*extent.Store, []byte) {
	t.Helper()
	s := format(t, used(t, n))
	var b []byte
	for k := range turns {
		b = text(k+1, length)
		take(t, s, b)
	}
	for i := 0; i < s.Slots(); i += 5 {
		answers(t, "Put", s.Put(i, block(i+7)), api.OK)
	}
	answers(t, "Sync", s.Sync(), api.OK)
	return s, b
}

// logOf is what the log's sectors hold.
func logOf(t *testing.T, s *extent.Store) []api.Block {
	t.Helper()
	var out []api.Block
	for i := range s.Slots() {
		b, err := s.Slot(i)
		answers(t, "Slot", err, api.OK)
		out = append(out, b)
	}
	return out
}

// P11.4: Take is cut at every write and sync, with every choice of what survives: Open finds the snapshot that was, or, if the superblock lived on, the one that was to come; the log's sectors are as they were; and a snapshot can be taken then.
func TestCut(t *testing.T) {
	r := rand.New(rand.NewSource(11))
	for _, x := range []struct{ sectors, old, next int }{
		{64, 0, 0}, {64, 1, 0}, {64, 0, 1}, {64, 65, 64}, {64, 300, 300}, {65, 960, 447}, {66, 1024, 1024}, {67, 100, 448}, {64, 959, 960}, {200, 3000, 3000},
	} {
		for turns := range 4 {
			s, old := before(t, x.sectors, turns, x.old)
			cutEverywhere(t, r, s, old, text(50, x.next))
		}
	}
}

func cutEverywhere(t *testing.T, r *rand.Rand, s *extent.Store, old, next []byte) {
	t.Helper()
	was, log := s.Turn(), logOf(t, s)
	writes := (len(next)+63)/64 + 3
	for n := range writes {
		d := s.Disk().Copy()
		arm(t, d, n)
		answers(t, "Take", opened(t, d).Take(next), api.ErrDead)
		for keep := range choices(r, len(d.Pending())) {
			c := d.Copy()
			crash(t, c, keep...)
			found(t, c, survives(d, keep, int(was+1)%2), was, old, next, log)
			if t.Failed() {
				t.Fatalf("turn %d, %d bytes, then %d, cut behind %d, kept %v", was, len(old), len(next), n, keep)
			}
		}
	}
	d := s.Disk().Copy()
	arm(t, d, writes)
	take(t, opened(t, d), next)
	for _, keep := range [][]bool{nil, {true, true, true}, {false}} {
		c := d.Copy()
		crash(t, c, keep...)
		found(t, c, true, was, old, next, log)
	}
	cut(t, d)
	crash(t, d)
	found(t, d, true, was, old, next, log)
}

// found holds what Open finds against what it should.
func found(t *testing.T, d *disk.Disk, came bool, was uint64, old, next []byte, log []api.Block) {
	t.Helper()
	if came {
		was, old = was+1, next
	}
	o := opened(t, d)
	tells(t, o, was, old)
	if got := logOf(t, o); !slices.Equal(got, log) {
		t.Errorf("the log's sectors: %x, not %x", got, log)
	}
	take(t, o, text(60, 90))
	tells(t, opened(t, d), was+1, text(60, 90))
	crash(t, d)
	tells(t, o, was+1, text(60, 90))
}

// P11.4: a Take is cut, the power comes again, and the same Store takes another one that is cut too: what Open finds is never half of something, and the Store tells what Open does.
func TestCutTwice(t *testing.T) {
	r := rand.New(rand.NewSource(12))
	lengths := []int{0, 70, 130}
	for _, one := range lengths {
		for _, two := range lengths {
			for turns := range 2 {
				for n := range (one+63)/64 + 3 {
					s, old := before(t, 64, turns, 100)
					cutTwice(t, r, s, old, text(51, one), text(52, two), n)
				}
			}
		}
	}
}

// behindCut is a disk behind a Take that was cut, and a Store on it that did it; each time it is made anew, as a Store can't be copied.
func behindCut(t *testing.T, from *disk.Disk, b []byte, n int, keep []bool) *extent.Store {
	t.Helper()
	s := opened(t, from.Copy())
	arm(t, s.Disk(), n)
	answers(t, "Take", s.Take(b), api.ErrDead)
	crash(t, s.Disk(), keep...)
	return s
}

func cutTwice(t *testing.T, r *rand.Rand, s *extent.Store, old, one, two []byte, n int) {
	t.Helper()
	was := s.Turn()
	d := s.Disk().Copy()
	arm(t, d, n)
	answers(t, "Take", opened(t, d).Take(one), api.ErrDead)
	for keep := range choices(r, len(d.Pending())) {
		now, snapshot := was, old
		if survives(d, keep, int(was+1)%2) {
			now, snapshot = was+1, one
		}
		for m := range (len(two)+63)/64 + 3 {
			for _, all := range []bool{false, true} {
				s := behindCut(t, s.Disk(), one, n, keep)
				tells(t, s, now, snapshot)
				tells(t, opened(t, s.Disk()), now, snapshot)
				arm(t, s.Disk(), m)
				answers(t, "Take", s.Take(two), api.ErrDead)
				turn(t, s, now)
				came := all && slices.Equal(s.Disk().Pending(), []int{int(now+1) % 2})
				crash(t, s.Disk(), picked(9, func(int) bool { return all })...)
				wantTurn, want := now, snapshot
				if came {
					wantTurn, want = now+1, two
				}
				tells(t, opened(t, s.Disk()), wantTurn, want)
				tells(t, s, wantTurn, want)
			}
		}
	}
}

// P11.4: what was put into the log and is not safe when a Take begins survives or does not, as any write; the snapshot does not hang on it.
func TestCutWithPendingPuts(t *testing.T) {
	r := rand.New(rand.NewSource(13))
	for n := range 6 {
		s, old := before(t, 64, 3, 200)
		log := logOf(t, s)
		for i := range 3 {
			answers(t, "Put", s.Put(i, block(900+i)), api.OK)
		}
		d := s.Disk()
		arm(t, d, n)
		err := s.Take(text(9, 100))
		for keep := range choices(r, len(d.Pending())) {
			c := d.Copy()
			crash(t, c, keep...)
			o := opened(t, c)
			if err == api.OK || survives(d, keep, 0) {
				tells(t, o, 4, text(9, 100))
			} else {
				tells(t, o, 3, old)
			}
			for i, b := range log {
				if i < 3 && (n > 2 || survives(d, keep, first(64, 2)+i)) {
					b = block(900 + i)
				}
				slot(t, o, i, b)
			}
		}
	}
}

// row is a disk with some Stores on it, and what they have to tell by the chapter's words.
type row struct {
	d      *disk.Disk
	stores []*extent.Store
	turn   uint64
	bytes  []byte
	steps  []string
}

func (w *row) say(format string, args ...any) {
	w.steps = append(w.steps, fmt.Sprintf(format, args...))
}

func (w *row) drawn(r *rand.Rand) *extent.Store {
	at := r.Intn(len(w.stores))
	w.say("Store %d:", at)
	return w.stores[at]
}

// takes lets a Store take a snapshot on a disk that may be armed, and lets the power come again.
func (w *row) takes(t *testing.T, r *rand.Rand) {
	length := []int{0, 1, 64, r.Intn(200), r.Intn(961), 960, 961}[r.Intn(7)]
	b := text(r.Intn(200), length)
	s := w.drawn(r)
	if r.Intn(2) == 0 {
		n := r.Intn((length+63)/64 + 4)
		w.say("armed with %d", n)
		arm(t, w.d, n)
	}
	err := s.Take(b)
	w.say("Take of %d: %d", length, err)
	switch {
	case length > 960:
		answers(t, "Take", err, api.ErrLong)
	case err == api.OK:
		w.turn, w.bytes = w.turn+1, b
	default:
		answers(t, "Take", err, api.ErrDead)
		w.crashes(t, r, b)
	}
	if !w.d.Dead() {
		arm(t, w.d, -1)
	}
}

// crashes lets the power come again behind a Take was cut.
func (w *row) crashes(t *testing.T, r *rand.Rand, b []byte) {
	for _, s := range w.stores {
		turn(t, s, w.turn)
	}
	keep := picked(len(w.d.Pending()), func(int) bool { return r.Intn(2) == 0 })
	w.say("kept %v of %v", keep, w.d.Pending())
	if survives(w.d, keep, int(w.turn+1)%2) {
		w.turn, w.bytes = w.turn+1, b
	}
	crash(t, w.d, keep...)
}

func (w *row) step(t *testing.T, r *rand.Rand) {
	switch r.Intn(6) {
	case 0:
		w.say("Put")
		s := w.drawn(r)
		i := r.Intn(s.Slots())
		answers(t, "Put", s.Put(i, block(r.Intn(1000))), api.OK)
	case 1:
		w.say("Sync")
		answers(t, "Sync", w.drawn(r).Sync(), api.OK)
	case 2:
		w.say("Open")
		w.stores = append(w.stores, opened(t, w.d))
	default:
		w.takes(t, r)
	}
}

// P11.2 to P11.4: drawn rows of calls on several Stores of one disk, some of them cut; behind each call all Stores, and a new one, tell the same, and what the chapter says.
func TestRows(t *testing.T) {
	r := rand.New(rand.NewSource(14))
	for range 60 {
		d := made(t, 64)
		w := &row{d: d, stores: []*extent.Store{format(t, d)}}
		for range 30 {
			w.step(t, r)
			log := image(t, d)[first(64, 2):]
			for _, s := range append(w.stores, opened(t, d)) {
				got, err := s.Snapshot()
				if s.Turn() != w.turn || !bytes.Equal(got, w.bytes) || err != api.OK || !slices.Equal(logOf(t, s), log) {
					t.Fatalf("Turn %d, Snapshot %x %d, not %d, %x behind %v", s.Turn(), got, err, w.turn, w.bytes, w.steps)
				}
			}
			if t.Failed() {
				t.Fatalf("behind %v", w.steps)
			}
		}
	}
}
