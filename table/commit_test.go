package table_test

import (
	"bytes"
	"fmt"
	"math/rand"
	"slices"
	"strings"
	"testing"

	"hollowtree/api"
	"hollowtree/disk"
	"hollowtree/table"
	"hollowtree/wal"
)

// wide is a shape whose values can be long.
var wide = api.Shape{Rows: 4, Key: 1, Value: 1024}

// sized are changes of the row "a" whose bytes are so many, and the value that it has behind them; 9 bytes at least.
func sized(size int) ([]step, []byte) {
	var steps []step
	for left := size - 2; left > 0; {
		take := min(left, 7+500)
		if rest := left - take; rest > 0 && rest < 7 {
			take -= 7
		}
		steps = append(steps, puts(0, "a", text(len(steps)+size, take-7)...))
		left -= take
	}
	return steps, steps[len(steps)-1].value
}

// leaves is a Base on a new disk of 64 sectors, with so many of the log's 32 sectors unused (an even number), and its rows.
func leaves(t *testing.T, free int) (*disk.Disk, *wal.Log, *table.Base, []row) {
	t.Helper()
	d, l, b := fresh(t, 64, wide)
	var list []row
	for k := range (32 - free) / 2 { // a commit of one short row has two sectors
		list = rows(row{"a", []byte{byte(k)}})
		does(t, b, puts(0, "a", byte(k)))
		commits(t, b)
	}
	if 32-l.Used() != free {
		t.Fatalf("%d sectors are left, not %d", 32-l.Used(), free)
	}
	return d, l, b, list
}

// idle lets a call be done that must not write: nothing of the disk is changed, and no write or sync is begun.
func idle(t *testing.T, d *disk.Disk, call func()) {
	t.Helper()
	before := d.Ops()
	must(t, "Arm", d.Arm(0), api.OK)
	call()
	if d.Dead() || d.Ops() != before {
		t.Fatalf("a write or sync was begun: %v, %d, not %d", d.Dead(), d.Ops(), before)
	}
	must(t, "Arm", d.Arm(-1), api.OK)
}

// P13.4: Commit without changes writes nothing: at first, behind a Commit, behind changes that were refused, behind an Abort.
func TestCommitNothing(t *testing.T) {
	d, l, b := fresh(t, 64, small)
	nothing := func(list []row, txs ...[]byte) {
		t.Helper()
		idle(t, d, func() { commits(t, b) })
		tells(t, b, 0, list)
		logHas(t, l, nil, txs...)
	}
	nothing(nil)
	refused(t, b, api.ErrArg, puts(0, ""))
	refused(t, b, api.ErrNone, dels(0, "a"))
	nothing(nil)
	does(t, b, puts(0, "a", 1))
	answers(t, "Abort", b.Abort(), api.OK)
	nothing(nil)
	does(t, b, puts(0, "a", 1))
	commits(t, b)
	nothing(rows(row{"a", []byte{1}}), stepBytes(puts(0, "a", 1)))

	must(t, "Arm", d.Arm(0), api.OK)
	must(t, "Sync", d.Sync(), api.ErrDead)
	commits(t, b) // also without power: nothing is to be written
	must(t, "Crash", d.Crash(nil), api.OK)
	nothing(rows(row{"a", []byte{1}}), stepBytes(puts(0, "a", 1)))
}

// P13.4: each Commit is a transaction of its own, of its changes in their order; also of changes that lead back to where one was.
func TestCommitAppends(t *testing.T) {
	d, l, b := fresh(t, 64, small, wide)
	var txs [][]byte
	for _, steps := range [][]step{
		{puts(0, "b", 1, 2, 3, 4)},
		{puts(1, "z", text(1, 200)...), puts(0, "a")},
		{dels(0, "b"), puts(0, "abc", 9), dels(1, "z")},
		{puts(0, "a"), puts(0, "a"), puts(0, "a")},
		{dels(0, "a"), puts(0, "a")},
	} {
		does(t, b, steps...)
		logHas(t, l, nil, txs...)
		before := d.Ops()
		commits(t, b)
		txs = append(txs, stepBytes(steps...))
		logHas(t, l, nil, txs...)
		if got := d.Ops() - before; got != 2+wal.Need(len(stepBytes(steps...))) || len(d.Pending()) != 0 {
			t.Errorf("Commit: %d writes and syncs, %v pending", got, d.Pending())
		}
	}
	list := rows(row{"a", nil}, row{"abc", []byte{9}})
	tells(t, b, 0, list, nil)
	diskHas(t, d, []api.Shape{small, wide}, list, nil)
}

// P13.4: changes that just fit into the log's room are appended; with a byte more the snapshot is taken.
func TestCommitFits(t *testing.T) {
	for _, free := range []int{2, 4, 12, 32} {
		most := 63 * (free - 1)
		for _, size := range []int{9, most - 63, most - 1, most, most + 1, most + 2, most + 63, most + 64, 3 * most} {
			if size < 9 {
				continue
			}
			d, l, b, _ := leaves(t, free)
			txs := l.Txs()
			steps, value := sized(size)
			tx := stepBytes(steps...)
			if len(tx) != size {
				t.Fatalf("%d bytes, not %d", len(tx), size)
			}
			does(t, b, steps...)
			list := rows(row{"a", value})
			tells(t, b, len(steps), list)
			commits(t, b)
			tells(t, b, 0, list)
			if size <= most {
				logHas(t, l, nil, append(txs, tx)...)
			} else {
				logHas(t, l, baseBytes(list))
			}
			diskHas(t, d, times(1, wide), list)
			does(t, b, dels(0, "a"), puts(0, "b", 1))
			commits(t, b)
			diskHas(t, d, times(1, wide), rows(row{"b", []byte{1}}))
			if t.Failed() {
				t.Fatalf("%d sectors free, changes of %d bytes", free, size)
			}
		}
	}
}

// P13.4: what neither the log nor the snapshot holds: ErrLong, nothing is written, what is meant stays with its changes; the Base goes on.
func TestCommitFitsNowhere(t *testing.T) {
	for _, x := range []struct {
		length int
		fits   bool
	}{{953, true}, {954, false}, {1000, false}, {1024, false}} {
		d, l, b, was := leaves(t, 2)
		txs := l.Txs()
		list := rows(row{"a", text(1, x.length)})
		does(t, b, puts(0, "a", list[0].value...))
		if x.fits { // 960 bytes: as many as a snapshot has room for
			commits(t, b)
			tells(t, b, 0, list)
			logHas(t, l, baseBytes(list))
			diskHas(t, d, times(1, wide), list)
			continue
		}
		for range 2 {
			idle(t, d, func() { answers(t, "Commit", b.Commit(), api.ErrLong) })
			tells(t, b, 1, list)
			logHas(t, l, nil, txs...)
			diskHas(t, d, times(1, wide), was)
		}
		aborted, _ := table.Open(logOf(t, d.Copy()), wide)
		does(t, aborted, puts(0, "a", list[0].value...))
		answers(t, "Commit", aborted.Commit(), api.ErrLong)
		answers(t, "Abort", aborted.Abort(), api.OK)
		tells(t, aborted, 0, was)
		does(t, aborted, puts(0, "b", 1))
		commits(t, aborted)
		tells(t, aborted, 0, append(slices.Clip(was), row{"b", []byte{1}}))

		does(t, b, puts(0, "b", 2), puts(0, "a", 3))
		tells(t, b, 3, rows(row{"a", []byte{3}}, row{"b", []byte{2}}))
		commits(t, b)
		list = rows(row{"a", []byte{3}}, row{"b", []byte{2}})
		tells(t, b, 0, list)
		logHas(t, l, baseBytes(list))
		diskHas(t, d, times(1, wide), list)
	}
}

// P13.4: a log that is full makes room, again and again.
func TestCommitsMany(t *testing.T) {
	d, l, b := fresh(t, 64, small, wide)
	snapshots := 0
	for k := range 300 {
		value := text(k, k*7%90)
		does(t, b, puts(1, string(rune('a'+k%4)), value...))
		if k%5 == 4 {
			does(t, b, puts(0, "x", byte(k)))
		}
		used := l.Used()
		commits(t, b)
		if l.Used() < used {
			snapshots++
			logHas(t, l, b.State())
		}
		if got := opened(t, logOf(t, d), small, wide).State(); !bytes.Equal(got, b.State()) {
			t.Fatalf("behind commit %d the disk has %x, not %x", k, got, b.State())
		}
	}
	if snapshots < 10 {
		t.Errorf("only %d snapshots", snapshots)
	}
}

// P13.4, P13.5: Abort takes back just what was not committed.
func TestAbort(t *testing.T) {
	d, l, b := fresh(t, 64, small, wide)
	abort := func(tables ...[]row) {
		t.Helper()
		idle(t, d, func() { answers(t, "Abort", b.Abort(), api.OK) })
		tells(t, b, 0, tables...)
		diskHas(t, d, []api.Shape{small, wide}, tables...)
	}
	abort(nil, nil)
	does(t, b, puts(0, "a", 1), puts(1, "b"))
	abort(nil, nil)
	does(t, b, puts(0, "a", 1), puts(0, "b", 2), puts(1, "c", 3))
	commits(t, b)
	one, two := rows(row{"a", []byte{1}}, row{"b", []byte{2}}), rows(row{"c", []byte{3}})
	abort(one, two)
	for _, steps := range [][]step{
		{dels(0, "a")},
		{puts(0, "a", 9)},
		{puts(0, "a", 9), puts(0, "a", 8), dels(0, "a"), puts(0, "a")},
		{dels(0, "a"), dels(0, "b"), puts(0, "x"), puts(0, "y"), dels(1, "c")},
		{puts(1, "d"), puts(1, "e"), puts(1, "c", 5), dels(1, "d")},
	} {
		does(t, b, steps...)
		abort(one, two)
		abort(one, two)
		does(t, b, steps...)
		answers(t, "Abort", b.Abort(), api.OK)
	}
	does(t, b, dels(0, "a"), puts(0, "x", 4))
	commits(t, b)
	does(t, b, dels(0, "x"), dels(0, "b"))
	abort(rows(row{"b", []byte{2}}, row{"x", []byte{4}}), two)
	logHas(t, l, nil, stepBytes(puts(0, "a", 1), puts(0, "b", 2), puts(1, "c", 3)), stepBytes(dels(0, "a"), puts(0, "x", 4)))
	c := opened(t, l, small, wide)
	does(t, c, dels(1, "c"), puts(0, "b"))
	answers(t, "Abort", c.Abort(), api.OK)
	tells(t, c, 0, rows(row{"b", []byte{2}}, row{"x", []byte{4}}), two)
}

// P13.4: an error of Checkpoint that is neither ErrLong nor ErrDead is Commit's, too; what is meant stays, with its changes, and the Log is broken.
func TestCommitOnSpoiltStore(t *testing.T) {
	d, _, b, was := leaves(t, 0)
	does(t, b, puts(0, "b", 1))
	for i := range 2 {
		must(t, "Write", d.Write(i, api.Block{}), api.OK)
	}
	answers(t, "Commit", b.Commit(), api.ErrFormat)
	list := append(slices.Clip(was), row{"b", []byte{1}})
	tells(t, b, 1, list)
	answers(t, "Commit of a broken log", b.Commit(), api.ErrDead)
	tells(t, b, 1, list)
	answers(t, "Abort", b.Abort(), api.OK)
	tells(t, b, 0, was)
}

// P13.4: State, byte for byte, of what is meant.
func TestState(t *testing.T) {
	_, _, b := fresh(t, 64, small, wide, small)
	state := func(want ...byte) {
		t.Helper()
		if got := b.State(); !bytes.Equal(got, want) {
			t.Errorf("State: %x, not %x", got, want)
		}
	}
	state(0, 0, 0, 0, 0, 0)
	does(t, b, puts(2, "zy", 1, 2, 3))
	state(0, 0, 0, 0, 1, 0, 2, 0, 'z', 'y', 3, 0, 1, 2, 3)
	does(t, b, puts(2, "z"))
	state(0, 0, 0, 0, 2, 0, 1, 0, 'z', 0, 0, 2, 0, 'z', 'y', 3, 0, 1, 2, 3)
	does(t, b, puts(1, "\x00", text(1, 258)...), dels(2, "zy"))
	state(slices.Concat([]byte{0, 0, 1, 0, 1, 0, 0, 2, 1}, text(1, 258), []byte{1, 0, 1, 0, 'z', 0, 0})...)
	commits(t, b)
	does(t, b, dels(1, "\x00"))
	state(0, 0, 0, 0, 1, 0, 1, 0, 'z', 0, 0)
}

// P13.5: State tells bases apart: of two of the same shapes it is the same just if the rows are, whichever way they came.
func TestStateTellsApart(t *testing.T) {
	shapes := []api.Shape{{Rows: 2, Key: 2, Value: 2}, {Rows: 1, Key: 1, Value: 3}}
	r := rand.New(rand.NewSource(42))
	keys := [][]string{{"a", "b", "ab", "\x00", "\x01", "\x01\x00"}, {"a", "\x00", "\x01"}}
	values := [][]byte{nil, {0}, {1}, {0, 0}, {1, 0}, {0, 1}, {'a', 0}}
	byState, byRows := map[string]string{}, map[string]string{}
	_, _, b := fresh(t, 64, shapes...)
	for range 60000 {
		i := r.Intn(2)
		key := keys[i][r.Intn(len(keys[i]))]
		switch r.Intn(12) {
		case 0:
			answers(t, "Abort", b.Abort(), api.OK)
		case 1:
			commits(t, b)
		case 2, 3, 4, 5:
			b.Del(i, key)
		default:
			b.Put(i, key, values[r.Intn(len(values))])
		}
		var told strings.Builder
		for i := range shapes {
			for key, value := range b.All(i) {
				fmt.Fprintf(&told, "%d %q %q;", i, key, value)
			}
		}
		state := string(b.State())
		if was, there := byState[state]; there && was != told.String() {
			t.Fatalf("the same State of %s and of %s", was, told.String())
		}
		if was, there := byRows[told.String()]; there && was != state {
			t.Fatalf("%s has the States %x and %x", told.String(), was, state)
		}
		byState[state], byRows[told.String()] = told.String(), state
	}
	if len(byRows) < 5000 {
		t.Errorf("only %d bases", len(byRows))
	}
}

// P13.1, P13.4: the log is shared: what the Base commits, the Log tells; several Bases one behind the other on one Log.
func TestLogIsShared(t *testing.T) {
	_, l := logged(t, 64, nil)
	var list []row
	for k := range 60 {
		b := opened(t, l, wide)
		tells(t, b, 0, list)
		if len(list) == 4 {
			does(t, b, dels(0, list[0].key))
			list = list[1:]
		}
		r := row{string(rune('A' + k)), text(k, k)}
		does(t, b, puts(0, r.key, r.value...))
		list = append(list, r)
		commits(t, b)
	}
}
