package table_test

import (
	"bytes"
	"fmt"
	"iter"
	"math/rand"
	"slices"
	"testing"

	"hollowtree/api"
	"hollowtree/disk"
	"hollowtree/table"
	"hollowtree/wal"
)

// choices are all ways in which n pending writes can live on, as far as they are few; else all, none, each alone, each alone not, and some that are drawn.
func choices(r *rand.Rand, n int) iter.Seq[[]bool] {
	return func(yield func([]bool) bool) {
		if n <= 7 {
			for bits := range 1 << n {
				if !yield(picked(n, func(k int) bool { return bits>>k&1 == 1 })) {
					return
				}
			}
			return
		}
		for _, one := range []bool{false, true} {
			for which := range n + 1 {
				if !yield(picked(n, func(k int) bool { return (k == which) == one })) {
					return
				}
			}
		}
		for range 20 {
			if !yield(picked(n, func(int) bool { return r.Intn(2) == 0 })) {
				return
			}
		}
	}
}

func picked(n int, lives func(int) bool) []bool {
	keep := make([]bool, n)
	for k := range keep {
		keep[k] = lives(k)
	}
	return keep
}

// plain is a base by the chapter's words: lists of rows by rising keys, as they are in its state and as they are meant.
type plain struct {
	shapes       []api.Shape
	state, meant [][]row
	steps        []step
}

func copied(tables [][]row) [][]row {
	out := make([][]row, len(tables))
	for i, list := range tables {
		out[i] = slices.Clone(list)
	}
	return out
}

func plainOf(shapes []api.Shape, tables [][]row) *plain {
	return &plain{shapes: shapes, state: copied(tables), meant: copied(tables)}
}

// does carries out a change, or answers why it can't be.
func (p *plain) does(s step) api.Errno {
	if s.table < 0 || s.table >= len(p.shapes) {
		return api.ErrArg
	}
	shape, list := p.shapes[s.table], p.meant[s.table]
	at := 0
	for at < len(list) && list[at].key < s.key {
		at++
	}
	there := at < len(list) && list[at].key == s.key
	switch {
	case s.put && len(s.key) == 0:
		return api.ErrArg
	case s.put && (len(s.key) > shape.Key || len(s.value) > shape.Value):
		return api.ErrLong
	case s.put && !there && len(list) == shape.Rows:
		return api.ErrFull
	case !s.put && !there:
		return api.ErrNone
	case len(p.steps) == 65535:
		return api.ErrFull
	}
	if there {
		list = slices.Delete(list, at, at+1)
	}
	if s.put {
		list = slices.Insert(list, at, row{s.key, s.value})
	}
	p.meant[s.table] = list
	p.steps = append(p.steps, s)
	return api.OK
}

func (p *plain) commits() { p.state, p.steps = copied(p.meant), nil }

func (p *plain) aborts() { p.meant, p.steps = copied(p.state), nil }

// before is a disk with a base of some turn, of which some commits are in the log, and changes that are to be committed on it.
type before struct {
	shapes []api.Shape
	d      *disk.Disk
	old    [][]row
	steps  []step
	next   [][]row
	ops    int // how many writes and syncs the commit has
}

// ready is a disk on which the commit of steps appends, or takes the snapshot.
func ready(t *testing.T, snapshots int, appends bool, steps ...step) before {
	t.Helper()
	shapes := []api.Shape{wide, small}
	d, l, b := fresh(t, 64, shapes...)
	does(t, b, puts(0, "a", text(1, 80)...), puts(0, "b"), puts(1, "abc", 1, 2))
	commits(t, b)
	room := wal.Need(len(stepBytes(steps...)))
	turns := 0
	for k := 0; turns < snapshots || appends == (32-l.Used() < room); k++ {
		used := l.Used()
		does(t, b, puts(0, "a", text(k, 10+k%2*70)...), puts(1, "x", byte(k))) // two sectors and three by turns, so that at times all are used
		commits(t, b)
		if l.Used() < used {
			turns++
		}
		if k > 1000 {
			t.Fatal("no such log")
		}
	}
	tables, right := byWords(shapes, l.Snapshot(), l.Txs())
	if !right {
		t.Fatal("no base")
	}
	p := plainOf(shapes, tables)
	for _, s := range steps {
		must(t, "a step", p.does(s), api.OK)
	}
	ops := room + 2
	if !appends {
		ops = (len(baseBytes(p.meant...))+63)/64 + 3
	}
	return before{shapes, d, p.state, steps, p.meant, ops}
}

// cases are disks with changes to be committed on them: few and many, that append and that take the snapshot, of several turns.
func cases(t *testing.T, try func(x before)) {
	t.Helper()
	for snapshots := range 3 {
		for _, appends := range []bool{true, false} {
			for _, steps := range [][]step{
				{dels(0, "b")},
				{puts(0, "c", text(2, 50)...)},
				{puts(0, "a"), dels(1, "abc"), puts(0, "c", text(3, 100)...)},
				{puts(0, "a", text(4, 200)...), puts(0, "a", text(5, 140)...)},
				{puts(0, "c", text(6, 300)...), puts(0, "b", text(7, 320)...), dels(0, "b"), dels(0, "a")},
			} {
				try(ready(t, snapshots, appends, steps...))
			}
		}
	}
}

// P13.4: Commit on a disk that is armed with 0, 1, 2 and so on: its error; what is meant stays with its changes, and a later Commit has an error too, until there are no changes.
func TestCommitArmed(t *testing.T) {
	cases(t, func(x before) {
		for n := range x.ops + 1 {
			d := x.d.Copy()
			l := logOf(t, d)
			b := opened(t, l, x.shapes...)
			does(t, b, x.steps...)
			snapshot, txs, was := l.Snapshot(), l.Txs(), d.Ops()
			must(t, "Arm", d.Arm(n), api.OK)
			err := b.Commit()
			if d.Ops() != was+n {
				t.Errorf("armed with %d: %d writes and syncs", n, d.Ops()-was)
			}
			if n == x.ops {
				answers(t, "Commit", err, api.OK)
				tells(t, b, 0, x.next...)
				continue
			}
			answers(t, "Commit on an armed disk", err, api.ErrDead)
			stays := func() {
				t.Helper()
				tells(t, b, len(x.steps), x.next...)
				logHas(t, l, snapshot, txs...)
			}
			stays()
			answers(t, "Commit without power", b.Commit(), api.ErrDead)
			stays()
			must(t, "Crash", d.Crash([]bool{true}), api.OK)
			now := d.Ops()
			answers(t, "Commit of a broken log", b.Commit(), api.ErrDead)
			stays()
			does(t, b, puts(1, "abc"))
			answers(t, "Commit of a broken log", b.Commit(), api.ErrDead)
			answers(t, "Abort", b.Abort(), api.OK)
			tells(t, b, 0, x.old...)
			answers(t, "Commit without changes", b.Commit(), api.OK)
			does(t, b, dels(0, "a"))
			answers(t, "Commit of a broken log", b.Commit(), api.ErrDead)
			if d.Ops() != now {
				t.Errorf("a broken log is written to: %d, not %d", d.Ops(), now)
			}
			if t.Failed() {
				t.Fatalf("%v, armed with %d", x.steps, n)
			}
		}
	})
}

// goesOn holds a Base that is opened on a disk against rows, behind another crash too, and lets it go on.
func goesOn(t *testing.T, d *disk.Disk, shapes []api.Shape, tables [][]row) {
	t.Helper()
	diskHas(t, d, shapes, tables...)
	must(t, "Crash", d.Crash(nil), api.OK)
	b := opened(t, logOf(t, d), shapes...)
	tells(t, b, 0, tables...)
	p := plainOf(shapes, tables)
	for _, s := range []step{puts(1, "abc", 7), puts(0, "b", 8)} {
		answers(t, "a step", asked(b, s), p.does(s))
	}
	commits(t, b)
	diskHas(t, d, shapes, p.meant...)
}

// P13.5: Commit is cut at every write and sync, with every choice of what survives: a Base that is opened then has the rows that were, or those that were to come; with OK told, the latter.
func TestCommitCut(t *testing.T) {
	r := rand.New(rand.NewSource(43))
	olds, nexts := 0, 0
	cases(t, func(x before) {
		for n := range x.ops + 1 {
			d := x.d.Copy()
			b := opened(t, logOf(t, d), x.shapes...)
			does(t, b, x.steps...)
			must(t, "Arm", d.Arm(n), api.OK)
			err := b.Commit()
			for keep := range choices(r, len(d.Pending())) {
				c := d.Copy()
				must(t, "Crash", c.Crash(keep), api.OK)
				state := opened(t, logOf(t, c), x.shapes...).State()
				switch {
				case bytes.Equal(state, baseBytes(x.next...)):
					nexts++
					goesOn(t, c, x.shapes, x.next)
				case bytes.Equal(state, baseBytes(x.old...)) && err != api.OK:
					olds++
					goesOn(t, c, x.shapes, x.old)
				default:
					t.Errorf("State: %x", state)
				}
				if t.Failed() {
					t.Fatalf("%v, cut behind %d, kept %v", x.steps, n, keep)
				}
			}
			if (err == api.OK) != (n == x.ops) {
				t.Fatalf("%v, armed with %d of %d: %d", x.steps, n, x.ops, err)
			}
		}
	})
	if olds < 500 || nexts < 50 {
		t.Errorf("%d times the rows that were, %d times those that were to come", olds, nexts)
	}
}

// drawn is a Base on a disk, held against a plain one.
type drawn struct {
	r     *rand.Rand
	d     *disk.Disk
	b     *table.Base
	p     *plain
	said  []string
	cuts  int
	longs int
}

func (w *drawn) say(format string, args ...any) {
	w.said = append(w.said, fmt.Sprintf(format, args...))
}

// changes asks for a change, which may be one that can't be.
func (w *drawn) changes(t *testing.T) {
	i := w.r.Intn(len(w.p.shapes)+1) - w.r.Intn(20)/19
	keys := []string{"a", "b", "ab", "c", "abc", "\x00", "\xff", "", "abcd"}
	s := dels(i, keys[w.r.Intn(len(keys))])
	if w.r.Intn(3) > 0 {
		length := []int{0, 1, 4, 5, w.r.Intn(40), w.r.Intn(400), 200 + w.r.Intn(826)}[w.r.Intn(7)]
		s = puts(i, s.key, text(w.r.Intn(9), length)...)
	}
	want := w.p.does(s)
	w.say("%v %d %q %d: %d", s.put, i, s.key, len(s.value), want)
	answers(t, "a change", asked(w.b, s), want)
}

// commits lets a Commit be done, that may be cut.
func (w *drawn) commits(t *testing.T) {
	if w.r.Intn(3) == 0 {
		n := w.r.Intn(8)
		w.say("armed with %d", n)
		must(t, "Arm", w.d.Arm(n), api.OK)
	}
	err := w.b.Commit()
	w.say("Commit of %d: %d", len(w.p.steps), err)
	switch err {
	case api.OK:
		w.p.commits()
		must(t, "Arm", w.d.Arm(-1), api.OK)
	case api.ErrLong:
		w.longs++
		if len(baseBytes(w.p.meant...)) <= 960 {
			t.Error("ErrLong, and the snapshot has room")
		}
		must(t, "Arm", w.d.Arm(-1), api.OK)
		tells(t, w.b, len(w.p.steps), w.p.meant...)
		if w.r.Intn(2) == 0 {
			w.aborts(t)
		}
	default:
		w.cuts++
		answers(t, "Commit", err, api.ErrDead)
		tells(t, w.b, len(w.p.steps), w.p.meant...)
		keep := picked(len(w.d.Pending()), func(int) bool { return w.r.Intn(2) == 0 })
		must(t, "Crash", w.d.Crash(keep), api.OK)
		w.opens(t, true)
	}
}

func (w *drawn) aborts(t *testing.T) {
	w.say("Abort")
	answers(t, "Abort", w.b.Abort(), api.OK)
	w.p.aborts()
}

// opens opens the Base anew, behind a Commit that was cut or behind none: it has the rows of the state, or, if one was cut, perhaps those that were meant.
func (w *drawn) opens(t *testing.T, cut bool) {
	w.b = opened(t, logOf(t, w.d), w.p.shapes...)
	came := cut && bytes.Equal(w.b.State(), baseBytes(w.p.meant...))
	w.say("opened anew: %v", came)
	if came {
		w.p.commits()
	}
	w.p.aborts()
}

// P13.1 to P13.5: drawn rows of calls, some Commits cut: behind each one the Base tells what a plain one does, and the disk has the state.
func TestRows(t *testing.T) {
	r := rand.New(rand.NewSource(44))
	cuts, longs := 0, 0
	for range 80 {
		shapes := [][]api.Shape{{small}, {small, wide}, {wide, {Rows: 3, Key: 2}, small}, times(8, small)}[r.Intn(4)]
		d, _, b := fresh(t, 64+r.Intn(3), shapes...)
		w := &drawn{r: r, d: d, b: b, p: plainOf(shapes, make([][]row, len(shapes)))}
		for range 200 {
			switch r.Intn(14) {
			case 0, 1, 4:
				w.commits(t)
			case 2:
				w.aborts(t)
			case 3:
				if r.Intn(4) == 0 {
					must(t, "Crash", d.Crash(nil), api.OK)
					w.opens(t, false)
				}
			default:
				w.changes(t)
			}
			tells(t, w.b, len(w.p.steps), w.p.meant...)
			diskHas(t, d, shapes, w.p.state...)
			if t.Failed() {
				t.Fatalf("behind %q", w.said)
			}
		}
		cuts, longs = cuts+w.cuts, longs+w.longs
	}
	t.Logf("%d cuts, %d times no room", cuts, longs)
	if cuts < 100 || longs < 10 {
		t.Errorf("only %d cuts, %d times no room", cuts, longs)
	}
}
