package wal_test

import (
	"bytes"
	"slices"
	"testing"

	"hollowtree/api"
	"hollowtree/extent"
	"hollowtree/wal"
)

// unchanged lets a call be done that must change nothing of the disk, nor be begun.
func unchanged(t *testing.T, s *extent.Store, call func()) {
	t.Helper()
	d := s.Disk()
	want, before := image(t, d), d.Ops()
	arm(t, d, 0)
	call()
	if d.Dead() {
		t.Fatal("a write or sync was begun")
	}
	arm(t, d, -1)
	holds(t, d, want)
	pending(t, d)
	ops(t, d, before)
}

// P12.3: what just fits is appended, one byte more is not, and nothing is written of it; the Log goes on.
func TestAppendFits(t *testing.T) {
	for _, n := range []int{64, 65, 67, 512} {
		for _, ahead := range [][]byte{nil, text(1, 1), text(2, 63), text(3, 64), text(4, 1000)} {
			s := stored(t, n)
			l := opened(t, s)
			appends(t, l, ahead)
			most := 63 * (s.Slots() - need(ahead) - 1)
			unchanged(t, s, func() {
				for _, more := range []int{1, 2, 63, 64, 1000, 1 << 20} {
					answers(t, "Append of too much", l.Append(make([]byte, most+more)), api.ErrFull)
				}
				tells(t, l, nil, ahead)
			})
			appends(t, l, text(5, most))
			unchanged(t, s, func() {
				answers(t, "Append of none", l.Append(nil), api.ErrFull)
				answers(t, "Append of one byte", l.Append([]byte{1}), api.ErrFull)
				tells(t, l, nil, ahead, text(5, most))
			})
			found(t, s.Disk(), nil, ahead, text(5, most))
			checkpoint(t, l, text(6, 10))
			appends(t, l, text(7, 100))
			found(t, s.Disk(), text(6, 10), text(7, 100))
		}
	}
}

// P12.4: as many transactions of no bytes as the log has sectors, and no more.
func TestAsManyAsSectors(t *testing.T) {
	for _, n := range []int{64, 65, 66, 67, 511, 512} {
		s := stored(t, n)
		l := opened(t, s)
		for turn := range 3 {
			snapshot := l.Snapshot()
			for k := range s.Slots() {
				appends(t, l, [][]byte{nil, {}}[k%2])
				slot(t, s, k, mark(uint64(turn), k, nil))
			}
			all := make([][]byte, s.Slots())
			unchanged(t, s, func() { answers(t, "one more", l.Append(nil), api.ErrFull) })
			tells(t, l, snapshot, all...)
			found(t, s.Disk(), snapshot, all...)
			m := logOf(t, s.Disk())
			answers(t, "one more of a Log that is opened", m.Append(nil), api.ErrFull)
			checkpoint(t, l, text(turn, turn))
		}
	}
}

// P12.3: Checkpoints of no bytes, of as many as the Store has room for, of one more (nothing changes, the Log goes on), with transactions and without.
func TestCheckpoint(t *testing.T) {
	for _, n := range []int{64, 65, 66, 67, 512} {
		s := stored(t, n)
		l := opened(t, s)
		turn := uint64(0)
		for k, length := range []int{0, 1, 63, 64, 65, s.Room() - 1, s.Room(), 0, s.Room(), s.Room()} {
			was, txs := l.Snapshot(), l.Txs()
			unchanged(t, s, func() {
				for _, more := range []int{1, 2, 64, 1 << 20} {
					answers(t, "Checkpoint of too much", l.Checkpoint(make([]byte, s.Room()+more)), api.ErrLong)
				}
				tells(t, l, was, txs...)
			})
			before, log := s.Disk().Ops(), slots(t, s)
			state := text(k, length)
			checkpoint(t, l, state)
			turn++
			ops(t, s.Disk(), before+(length+63)/64+3)
			pending(t, s.Disk())
			if got := s.Turn(); got != turn {
				t.Errorf("Turn: %d, not %d", got, turn)
			}
			if b, err := s.Snapshot(); !bytes.Equal(b, state) || err != api.OK {
				t.Errorf("the Store's snapshot: %x %d, not %x", b, err, state)
			}
			if !slices.Equal(slots(t, s), log) {
				t.Error("Checkpoint changed the log's sectors")
			}
			tells(t, l, state)
			found(t, s.Disk(), state)
			for range k % 3 {
				appends(t, l, text(k, 70))
			}
		}
	}
}

// P12.3: behind a Checkpoint that was too long the Log appends and checkpoints as if it had not been.
func TestTooLongGoesOn(t *testing.T) {
	s := stored(t, 64)
	l := opened(t, s)
	appends(t, l, text(1, 100))
	answers(t, "Checkpoint of 961 bytes", l.Checkpoint(make([]byte, 961)), api.ErrLong)
	appends(t, l, text(2, 100))
	answers(t, "Checkpoint of 961 bytes", l.Checkpoint(make([]byte, 961)), api.ErrLong)
	found(t, s.Disk(), nil, text(1, 100), text(2, 100))
	checkpoint(t, l, text(3, 960))
	appends(t, l, text(4, 10))
	found(t, s.Disk(), text(3, 960), text(4, 10))
}

// P12.2, R6: Txs and All several times; All left at each place, and gone through again, by itself and one within the other.
func TestToldAgain(t *testing.T) {
	s := stored(t, 64)
	l := opened(t, s)
	txs := [][]byte{text(1, 70), nil, text(2, 63), text(3, 1)}
	appends(t, l, txs...)
	all := l.All()
	for stop := range 5 {
		steps := 0
		for number, tx := range all {
			if number != steps || !bytes.Equal(tx, txs[number]) {
				t.Errorf("All: %d %x, not %d %x", number, tx, steps, txs[steps])
			}
			if number == stop {
				break
			}
			steps++
		}
		if steps != min(stop, 4) {
			t.Errorf("left at %d: %d steps", stop, steps)
		}
		tells(t, l, nil, txs...)
	}
	pairs := 0
	for i := range all {
		for j := range all {
			pairs += 10*i + j
		}
	}
	if pairs != 4*10*6+4*6 {
		t.Errorf("one All within the other: %d", pairs)
	}
	for range 3 {
		if got := l.Txs(); !same(got, txs) {
			t.Errorf("Txs: %x", got)
		}
	}
}

// P12.2, R1: what is done to the Log while All is gone through does not change what this All tells, which ends; the next one tells it.
func TestAllWhileAppending(t *testing.T) {
	s := stored(t, 64)
	l := opened(t, s)
	appends(t, l, text(1, 10), text(2, 10))
	all := l.All()
	appends(t, l, text(3, 20))
	for range 2 {
		var got [][]byte
		for _, tx := range all {
			got = append(got, tx)
			appends(t, l, text(4, 20))
		}
		if !same(got, [][]byte{text(1, 10), text(2, 10)}) {
			t.Errorf("All while appending: %x", got)
		}
	}
	was := [][]byte{text(1, 10), text(2, 10), text(3, 20), text(4, 20), text(4, 20), text(4, 20), text(4, 20)}
	tells(t, l, nil, was...)
	var got [][]byte
	for _, tx := range l.All() {
		got = append(got, tx)
		checkpoint(t, l, []byte{1})
		appends(t, l, text(5, 30), nil, text(6, 30))
	}
	if !same(got, was) {
		t.Errorf("All while checkpoints are made: %x", got)
	}
	tells(t, l, []byte{1}, text(5, 30), nil, text(6, 30))
}

// R3: what is handed in is neither changed nor kept, nor the room behind its end.
func TestHandedIn(t *testing.T) {
	for _, length := range []int{0, 1, 62, 63, 64, 127} {
		s := stored(t, 64)
		l := opened(t, s)
		room := text(1, 400)
		was := bytes.Clone(room)
		list := room[100 : 100+length]
		want := bytes.Clone(list)
		checkpoint(t, l, list)
		appends(t, l, list, list)
		if !bytes.Equal(room, was) {
			t.Error("what was handed in is changed")
		}
		for i := range room {
			room[i] ^= 0xff
		}
		tells(t, l, want, want, want)
		found(t, s.Disk(), want, want, want)
	}
}

// R3: what is answered may be changed, and grown, without the Log or another answer telling it.
func TestAnsweredMayBeChanged(t *testing.T) {
	s := stored(t, 64)
	l := opened(t, s)
	checkpoint(t, l, text(1, 50))
	txs := [][]byte{text(2, 70), text(3, 1), nil, text(4, 63)}
	appends(t, l, txs...)
	for _, m := range []*wal.Log{l, opened(t, s)} {
		spoilt := func(b []byte) {
			for i := range b {
				b[i] ^= 0xff
			}
			b = b[:cap(b)]
			for i := range b {
				b[i] = 0xee
			}
		}
		first, list := m.Snapshot(), m.Txs()
		spoilt(m.Snapshot())
		for _, tx := range m.Txs() {
			spoilt(tx)
		}
		for _, tx := range m.All() {
			spoilt(tx)
		}
		if !bytes.Equal(first, text(1, 50)) || !same(list, txs) {
			t.Errorf("answers share memory: %x %x", first, list)
		}
		spoilt(list[0])
		if !same(list[1:], txs[1:]) {
			t.Errorf("lists of one answer share memory: %x", list)
		}
		list = list[:cap(list)]
		for i := range list {
			list[i] = []byte{9}
		}
		tells(t, m, text(1, 50), txs...)
	}
	appends(t, l, text(5, 5))
	found(t, s.Disk(), text(1, 50), append(txs, text(5, 5))...)
}

// P12.3: a Log goes on behind a crash that cut nothing of it.
func TestCrashBetween(t *testing.T) {
	s := stored(t, 64)
	l := opened(t, s)
	appends(t, l, text(1, 70))
	crash(t, s.Disk())
	appends(t, l, nil)
	cut(t, s.Disk())
	crash(t, s.Disk())
	checkpoint(t, l, text(2, 70))
	crash(t, s.Disk())
	appends(t, l, text(3, 70))
	tells(t, l, text(2, 70), text(3, 70))
	found(t, s.Disk(), text(2, 70), text(3, 70))
}

// P12.1, P12.3: Logs one behind the other on one disk, each with what the one ahead did.
func TestOneBehindTheOther(t *testing.T) {
	d := stored(t, 67).Disk()
	var snapshot []byte
	var txs [][]byte
	for k := range 60 {
		l := logOf(t, d)
		tells(t, l, snapshot, txs...)
		tx := text(k, k*7%200)
		switch err := l.Append(tx); err {
		case api.OK:
			txs = append(txs, tx)
		default:
			answers(t, "Append", err, api.ErrFull)
			snapshot, txs = slices.Concat(txs...)[:100], nil
			checkpoint(t, l, snapshot)
		}
	}
}
