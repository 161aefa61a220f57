package wal_test

import (
	"fmt"
	"iter"
	"math/rand"
	"slices"
	"testing"

	"hollowtree/api"
	"hollowtree/disk"
	"hollowtree/extent"
	"hollowtree/wal"
)

// choices are all ways in which n pending writes can live on, as far as they are few; else all, none, each alone, each alone not, and some that are drawn.
func choices(r *rand.Rand, n int) iter.Seq[[]bool] {
	return func(yield func([]bool) bool) {
		if n <= 7 {
			for bits := range 1 << n {
				if !yield(picked(n, func(k int) bool { return bits>>k&1 == 1 })) {
					return
				}
			}
			return
		}
		for _, one := range []bool{false, true} {
			for which := range n + 1 {
				if !yield(picked(n, func(k int) bool { return (k == which) == one })) {
					return
				}
			}
		}
		for range 20 {
			if !yield(picked(n, func(int) bool { return r.Intn(2) == 0 })) {
				return
			}
		}
	}
}

func picked(n int, lives func(int) bool) []bool {
	keep := make([]bool, n)
	for k := range keep {
		keep[k] = lives(k)
	}
	return keep
}

// survives tells whether a choice lets a pending write of a sector live on.
func survives(d *disk.Disk, keep []bool, sector int) bool {
	for k, at := range d.Pending() {
		if at == sector && k < len(keep) && keep[k] {
			return true
		}
	}
	return false
}

// before is a Store of some turn with a snapshot and transactions; behind them in the log lie the same ones, and next, of an earlier turn.
func before(t *testing.T, n, turns int, next []byte, txs ...[]byte) (*extent.Store, []byte) {
	t.Helper()
	s := stored(t, n)
	l := opened(t, s)
	var snapshot []byte
	for k := range turns {
		appends(t, l, txs...)
		if l.Append(next) == api.OK {
			for l.Append(next[:len(next)/2]) == api.OK {
			}
		}
		snapshot = text(k+70, 130)
		checkpoint(t, l, snapshot)
	}
	appends(t, l, txs...)
	return s, snapshot
}

// broken is what a Log has to answer behind a call that was cut, with the power gone and back: it is broken, tells what was, and writes nothing.
func broken(t *testing.T, l *wal.Log, d *disk.Disk, snapshot []byte, txs [][]byte) {
	t.Helper()
	before := d.Ops()
	for _, b := range [][]byte{nil, {1}, text(1, 64), make([]byte, 100000)} {
		answers(t, "Append of a broken Log", l.Append(b), api.ErrDead)
		answers(t, "Checkpoint of a broken Log", l.Checkpoint(b), api.ErrDead)
	}
	ops(t, d, before)
	tells(t, l, snapshot, txs...)
}

// staysBroken lets the power come again behind a call that was cut. What is asked of the Log first is one of three: a call that breaks it by itself would hide that the one ahead did not.
func staysBroken(t *testing.T, l *wal.Log, d *disk.Disk, first int, snapshot []byte, txs [][]byte) {
	t.Helper()
	if first == 0 {
		broken(t, l, d, snapshot, txs)
	}
	crash(t, d, true)
	if first == 1 {
		answers(t, "Checkpoint of a broken Log", l.Checkpoint(nil), api.ErrDead)
	}
	broken(t, l, d, snapshot, txs)
	arm(t, d, 0)
	broken(t, l, d, snapshot, txs)
	if d.Dead() {
		t.Error("a broken Log writes")
	}
}

// P12.3: Append on a disk that is armed with 0, 1, 2 and so on: the writes and syncs ahead are done, in their order; the Log is broken from then on.
func TestAppendArmed(t *testing.T) {
	for _, length := range []int{0, 1, 63, 64, 127, 400, 63 * 27} {
		for turns := range 3 {
			tx := text(9, length)
			txs := [][]byte{text(1, 70), nil}
			for n := range need(tx) + 3 {
				s, snapshot := before(t, 64, turns, tx, txs...)
				d, l := s.Disk(), opened(t, s)
				was, first := d.Ops(), logAt(64)+need(txs...)
				arm(t, d, n)
				err := l.Append(tx)
				ops(t, d, was+n)
				if n == need(tx)+2 {
					answers(t, "Append", err, api.OK)
					tells(t, l, snapshot, append(slices.Clip(txs), tx)...)
					continue
				}
				answers(t, "Append on an armed disk", err, api.ErrDead)
				var want []int
				switch {
				case n < need(tx):
					for k := range n {
						want = append(want, first+1+k)
					}
				case n == need(tx)+1:
					want = []int{first}
				}
				pending(t, d, want...)
				staysBroken(t, l, d, n%3, snapshot, txs)
			}
		}
	}
}

// P12.3: Checkpoint on a disk that is armed with 0, 1, 2 and so on.
func TestCheckpointArmed(t *testing.T) {
	for _, length := range []int{0, 1, 64, 65, 300, 960} {
		for turns := range 3 {
			state := text(8, length)
			txs := [][]byte{text(1, 70), nil, text(2, 63)}
			writes := (length + 63) / 64
			for n := range writes + 4 {
				s, snapshot := before(t, 64, turns, text(3, 90), txs...)
				d, l := s.Disk(), opened(t, s)
				was := d.Ops()
				arm(t, d, n)
				err := l.Checkpoint(state)
				ops(t, d, was+n)
				if n == writes+3 {
					answers(t, "Checkpoint", err, api.OK)
					tells(t, l, state)
					continue
				}
				answers(t, "Checkpoint on an armed disk", err, api.ErrDead)
				staysBroken(t, l, d, n%3, snapshot, txs)
			}
		}
	}
}

// P12.3: the power is gone already, by somebody else's write: the Log does not know until it writes; a transaction for which there is no room, or a snapshot that is too long, is refused ahead of that.
func TestWithoutPower(t *testing.T) {
	for _, checkpoints := range []bool{false, true} {
		s, snapshot := before(t, 64, 1, nil, text(1, 70))
		d, l := s.Disk(), opened(t, s)
		cut(t, d)
		answers(t, "Append of too much", l.Append(make([]byte, 63*32)), api.ErrFull)
		answers(t, "Checkpoint of too much", l.Checkpoint(make([]byte, 961)), api.ErrLong)
		if checkpoints {
			answers(t, "Checkpoint", l.Checkpoint(nil), api.ErrDead)
		} else {
			answers(t, "Append", l.Append(nil), api.ErrDead)
		}
		broken(t, l, d, snapshot, [][]byte{text(1, 70)})
		crash(t, d)
		broken(t, l, d, snapshot, [][]byte{text(1, 70)})
		found(t, d, snapshot, text(1, 70))
	}
}

// P12.3: a Take with another error than ErrLong breaks the Log too.
func TestCheckpointOfSpoiltStore(t *testing.T) {
	s, snapshot := before(t, 64, 1, nil, text(1, 70))
	d, l := s.Disk(), opened(t, s)
	for i := range 2 {
		answers(t, "Write", d.Write(i, api.Block{}), api.OK)
	}
	answers(t, "Checkpoint", l.Checkpoint(nil), api.ErrFormat)
	broken(t, l, d, snapshot, [][]byte{text(1, 70)})
}

// goesOn holds what Open finds against what it should, behind another crash too, and lets a new Log go on from there.
func goesOn(t *testing.T, d *disk.Disk, snapshot []byte, txs ...[]byte) {
	t.Helper()
	tells(t, logOf(t, d), snapshot, txs...)
	crash(t, d)
	l := logOf(t, d)
	tells(t, l, snapshot, txs...)
	if more := text(33, 65); l.Room(len(more)) {
		appends(t, l, more)
		tells(t, logOf(t, d), snapshot, append(slices.Clip(txs), more)...)
	}
	checkpoint(t, l, text(34, 65))
	tells(t, logOf(t, d), text(34, 65))
}

// P12.4: Append is cut at every write and sync, with every choice of what survives: Open finds the transactions that were, or, if the mark lived on, these and the one that was to come; with OK told, the latter.
func TestAppendCut(t *testing.T) {
	r := rand.New(rand.NewSource(31))
	for _, length := range []int{0, 1, 63, 64, 126, 127, 300, 441} {
		for turns := range 3 {
			for _, txs := range [][][]byte{{}, {nil}, {text(1, 63), nil}} {
				s, snapshot := before(t, 64, turns, text(9, length), txs...)
				cutAppend(t, r, s, snapshot, txs, text(9, length))
			}
		}
	}
	for _, length := range []int{800, 63*28 - 1, 63 * 28} {
		txs := [][]byte{nil, text(1, 63)}
		s, snapshot := before(t, 64, 1, text(9, length), txs...)
		cutAppend(t, r, s, snapshot, txs, text(9, length))
	}
}

func cutAppend(t *testing.T, r *rand.Rand, s *extent.Store, snapshot []byte, txs [][]byte, tx []byte) {
	t.Helper()
	with := append(slices.Clip(txs), tx)
	first := logAt(s.Disk().Len()) + need(txs...)
	for n := range need(tx) + 3 {
		d := s.Disk().Copy()
		arm(t, d, n)
		err := logOf(t, d).Append(tx)
		for keep := range choices(r, len(d.Pending())) {
			c := d.Copy()
			came := err == api.OK || survives(d, keep, first)
			crash(t, c, keep...)
			if came {
				goesOn(t, c, snapshot, with...)
			} else {
				goesOn(t, c, snapshot, txs...)
			}
			if t.Failed() {
				t.Fatalf("turn %d, %d transactions, then %d bytes, cut behind %d, kept %v", s.Turn(), len(txs), len(tx), n, keep)
			}
		}
		if (err == api.OK) != (n == need(tx)+2) {
			t.Fatalf("Append of %d bytes, armed with %d: %d", len(tx), n, err)
		}
	}
}

// P12.4: Checkpoint is cut at every write and sync, with every choice of what survives: Open finds the snapshot and the transactions that were, or the new snapshot and none; with OK told, the latter.
func TestCheckpointCut(t *testing.T) {
	r := rand.New(rand.NewSource(32))
	for _, length := range []int{0, 1, 64, 65, 400, 448, 960} {
		for turns := range 3 {
			for _, txs := range [][][]byte{{}, {text(1, 70), nil, text(2, 126)}} {
				s, snapshot := before(t, 64, turns, text(3, 100), txs...)
				cutCheckpoint(t, r, s, snapshot, txs, text(9, length))
			}
		}
	}
}

func cutCheckpoint(t *testing.T, r *rand.Rand, s *extent.Store, snapshot []byte, txs [][]byte, state []byte) {
	t.Helper()
	writes := (len(state) + 63) / 64
	super := int(s.Turn()+1) % 2
	for n := range writes + 4 {
		d := s.Disk().Copy()
		arm(t, d, n)
		err := logOf(t, d).Checkpoint(state)
		for keep := range choices(r, len(d.Pending())) {
			c := d.Copy()
			came := err == api.OK || survives(d, keep, super)
			crash(t, c, keep...)
			if came {
				goesOn(t, c, state)
			} else {
				goesOn(t, c, snapshot, txs...)
			}
			if t.Failed() {
				t.Fatalf("turn %d, %d transactions, then a snapshot of %d bytes, cut behind %d, kept %v", s.Turn(), len(txs), len(state), n, keep)
			}
		}
		if (err == api.OK) != (n == writes+3) {
			t.Fatalf("Checkpoint of %d bytes, armed with %d: %d", len(state), n, err)
		}
	}
}

// P12.4: an Append is cut, and behind the crash another one, or a Checkpoint, of a new Log is cut too: what Open finds is never half of something.
func TestCutTwice(t *testing.T) {
	r := rand.New(rand.NewSource(34))
	txs := [][]byte{text(1, 20)}
	for _, one := range []int{0, 63, 130} {
		for n := range need(text(5, one)) + 2 {
			s, snapshot := before(t, 64, 1, text(5, one), txs...)
			d := s.Disk()
			arm(t, d, n)
			answers(t, "Append", logOf(t, d).Append(text(5, one)), api.ErrDead)
			for keep := range choices(r, len(d.Pending())) {
				c := d.Copy()
				now := txs
				if survives(d, keep, logAt(64)+need(txs...)) {
					now = append(slices.Clip(txs), text(5, one))
				}
				crash(t, c, keep...)
				for _, two := range []int{0, 63, 100, 130} {
					cutAppend(t, r, storeOf(t, c.Copy()), snapshot, now, text(6, two))
					cutAppend(t, r, storeOf(t, c.Copy()), snapshot, now, text(5, two))
					cutCheckpoint(t, r, storeOf(t, c.Copy()), snapshot, now, text(6, two))
				}
			}
		}
	}
}

// row is a disk with a Log on it, and what it has to tell by the chapter's words.
type row struct {
	d        *disk.Disk
	l        *wal.Log
	snapshot []byte
	txs      [][]byte
	steps    []string
}

func (w *row) say(format string, args ...any) {
	w.steps = append(w.steps, fmt.Sprintf(format, args...))
}

// armed arms the disk with fewer than so many writes and syncs, or not at all.
func (w *row) armed(t *testing.T, r *rand.Rand, most int) {
	if r.Intn(3) == 0 {
		n := r.Intn(most)
		w.say("armed with %d", n)
		arm(t, w.d, n)
	}
}

func (w *row) appends(t *testing.T, r *rand.Rand) {
	tx := text(r.Intn(5), []int{0, 1, 62, 63, 64, 126, r.Intn(300), r.Intn(2000)}[r.Intn(8)])
	fits := need(w.txs...)+need(tx) <= storeOf(t, w.d).Slots()
	w.armed(t, r, need(tx)+3)
	err := w.l.Append(tx)
	w.say("Append of %d: %d", len(tx), err)
	with := append(slices.Clip(w.txs), tx)
	switch {
	case !fits:
		answers(t, "Append", err, api.ErrFull)
	case err == api.OK:
		w.txs = with
	default:
		answers(t, "Append", err, api.ErrDead)
		w.crashes(t, r, logAt(w.d.Len())+need(w.txs...), w.snapshot, with)
	}
}

func (w *row) checkpoints(t *testing.T, r *rand.Rand) {
	state := text(r.Intn(5), []int{0, 1, 64, r.Intn(961), 960, 961}[r.Intn(6)])
	w.armed(t, r, (len(state)+63)/64+4)
	next := int(storeOf(t, w.d).Turn()+1) % 2
	err := w.l.Checkpoint(state)
	w.say("Checkpoint of %d: %d", len(state), err)
	switch {
	case len(state) > 960:
		answers(t, "Checkpoint", err, api.ErrLong)
	case err == api.OK:
		w.snapshot, w.txs = state, nil
	default:
		answers(t, "Checkpoint", err, api.ErrDead)
		w.crashes(t, r, next, state, nil)
	}
}

// crashes lets the power come again behind a call that was cut; if a sector survives it is as behind the call.
func (w *row) crashes(t *testing.T, r *rand.Rand, sector int, snapshot []byte, txs [][]byte) {
	broken(t, w.l, w.d, w.snapshot, w.txs)
	keep := picked(len(w.d.Pending()), func(int) bool { return r.Intn(2) == 0 })
	w.say("kept %v of %v", keep, w.d.Pending())
	came := survives(w.d, keep, sector)
	crash(t, w.d, keep...)
	broken(t, w.l, w.d, w.snapshot, w.txs)
	if came {
		w.snapshot, w.txs = snapshot, txs
	}
	w.l = logOf(t, w.d)
}

// P12.1 to P12.4: drawn rows of calls, some of them cut; behind each one the Log, and a new one, tell what the chapter says.
func TestRows(t *testing.T) {
	r := rand.New(rand.NewSource(33))
	for range 150 {
		d := stored(t, 64+r.Intn(2)).Disk()
		w := &row{d: d, l: logOf(t, d)}
		for range 40 {
			switch r.Intn(7) {
			case 0:
				w.checkpoints(t, r)
			case 1:
				w.say("a crash")
				crash(t, d)
			default:
				w.appends(t, r)
			}
			arm(t, d, -1)
			tells(t, w.l, w.snapshot, w.txs...)
			found(t, d, w.snapshot, w.txs...)
			if b := byWords(slots(t, storeOf(t, d)), storeOf(t, d).Turn()); !same(b, w.txs) {
				t.Errorf("the log has %x, not %x", b, w.txs)
			}
			if t.Failed() {
				t.Fatalf("behind %v", w.steps)
			}
		}
	}
}
