package wal_test

import (
	"bytes"
	"crypto/sha256"
	"encoding/binary"
	"math"
	"slices"
	"testing"

	"hollowtree/api"
	"hollowtree/disk"
	"hollowtree/extent"
	"hollowtree/wal"
)

// text is n bytes, others for each kind; the last one is no nought.
func text(kind, n int) []byte {
	b := make([]byte, n)
	for i := range b {
		b[i] = byte(i*i + 31*i*kind + 5*kind + i>>6)
	}
	if n > 0 {
		b[n-1] |= 1
	}
	return b
}

// sealed is a mark of 48 bytes, right or not, with the hash that belongs to them.
func sealed(front []byte) api.Block {
	var b api.Block
	copy(b[:48], front)
	hash := sha256.Sum256(b[:48])
	copy(b[48:], hash[:16])
	return b
}

// says is a mark by the chapter's words.
func says(turn uint64, number, size uint32, hash []byte) api.Block {
	b := binary.LittleEndian.AppendUint64([]byte{1}, turn)
	b = binary.LittleEndian.AppendUint32(b, number)
	b = binary.LittleEndian.AppendUint32(b, size)
	return sealed(append(b, hash[:16]...))
}

// mark is the mark of a transaction.
func mark(turn uint64, number int, tx []byte) api.Block {
	hash := sha256.Sum256(tx)
	return says(turn, uint32(number), uint32(len(tx)), hash[:])
}

// sectors are those of a transaction by the chapter's words, the mark first.
func sectors(turn uint64, number int, tx []byte) []api.Block {
	out := []api.Block{mark(turn, number, tx)}
	for part := range slices.Chunk(tx, 63) {
		var b api.Block
		copy(b[1:], part)
		out = append(out, b)
	}
	return out
}

// The calls, with the test's end, or an error of it, where one is not answered so.
func made(t *testing.T, n int) *disk.Disk {
	t.Helper()
	d, err := disk.New(n)
	if d == nil || err != api.OK {
		t.Fatalf("New(%d): %v %d", n, d, err)
	}
	return d
}

// stored is a Store on a new disk.
func stored(t *testing.T, n int) *extent.Store {
	t.Helper()
	s, err := extent.Format(made(t, n))
	if s == nil || err != api.OK {
		t.Fatalf("Format: %v %d", s, err)
	}
	return s
}

// storeOf is a Store that is opened on a disk.
func storeOf(t *testing.T, d *disk.Disk) *extent.Store {
	t.Helper()
	s, err := extent.Open(d)
	if s == nil || err != api.OK {
		t.Fatalf("Open of the disk: %v %d", s, err)
	}
	return s
}

func opened(t *testing.T, s *extent.Store) *wal.Log {
	t.Helper()
	l, err := wal.Open(s)
	if l == nil || err != api.OK {
		t.Fatalf("Open: %v %d", l, err)
	}
	return l
}

// logOf is a Log of a Store that is opened on a disk.
func logOf(t *testing.T, d *disk.Disk) *wal.Log {
	t.Helper()
	return opened(t, storeOf(t, d))
}

func unopened(t *testing.T, s *extent.Store, want api.Errno) {
	t.Helper()
	if l, err := wal.Open(s); l != nil || err != want {
		t.Errorf("Open: %v %d, not %d", l, err, want)
	}
}

func answers(t *testing.T, what string, got, want api.Errno) {
	t.Helper()
	if got != want {
		t.Errorf("%s: %d, not %d", what, got, want)
	}
}

func appends(t *testing.T, l *wal.Log, txs ...[]byte) {
	t.Helper()
	for _, tx := range txs {
		answers(t, "Append", l.Append(tx), api.OK)
	}
}

func checkpoint(t *testing.T, l *wal.Log, state []byte) {
	t.Helper()
	answers(t, "Checkpoint", l.Checkpoint(state), api.OK)
}

func arm(t *testing.T, d *disk.Disk, n int) {
	t.Helper()
	answers(t, "Arm", d.Arm(n), api.OK)
}

func crash(t *testing.T, d *disk.Disk, keep ...bool) {
	t.Helper()
	answers(t, "Crash", d.Crash(keep), api.OK)
}

// cut lets the power go.
func cut(t *testing.T, d *disk.Disk) {
	t.Helper()
	arm(t, d, 0)
	answers(t, "Sync behind the last", d.Sync(), api.ErrDead)
}

func put(t *testing.T, s *extent.Store, i int, b api.Block) {
	t.Helper()
	answers(t, "Put", s.Put(i, b), api.OK)
}

// puts puts sectors of the log from one on, and answers the one behind them.
func puts(t *testing.T, s *extent.Store, i int, blocks ...api.Block) int {
	t.Helper()
	for _, b := range blocks {
		put(t, s, i, b)
		i++
	}
	return i
}

// slots is what the log's sectors hold.
func slots(t *testing.T, s *extent.Store) []api.Block {
	t.Helper()
	out := make([]api.Block, s.Slots())
	for i := range out {
		b, err := s.Slot(i)
		if err != api.OK {
			t.Fatalf("Slot(%d): %d", i, err)
		}
		out[i] = b
	}
	return out
}

// image is what all sectors of a disk hold.
func image(t *testing.T, d *disk.Disk) []api.Block {
	t.Helper()
	out := make([]api.Block, d.Len())
	for i := range out {
		b, err := d.Read(i)
		if err != api.OK {
			t.Fatalf("Read(%d): %d", i, err)
		}
		out[i] = b
	}
	return out
}

// holds holds all sectors of a disk against those that it should have.
func holds(t *testing.T, d *disk.Disk, want []api.Block) {
	t.Helper()
	for i, got := range image(t, d) {
		if got != want[i] {
			t.Errorf("sector %d: %x, not %x", i, got, want[i])
		}
	}
}

func pending(t *testing.T, d *disk.Disk, want ...int) {
	t.Helper()
	if got := d.Pending(); !slices.Equal(got, want) {
		t.Errorf("Pending: %v, not %v", got, want)
	}
}

func ops(t *testing.T, d *disk.Disk, want int) {
	t.Helper()
	if got := d.Ops(); got != want {
		t.Errorf("Ops: %d, not %d", got, want)
	}
}

// logAt is the first of the log's sectors on a disk of n.
func logAt(n int) int { return 2 + (n-2)/4*2 }

// need is how many sectors transactions have, by the chapter's words.
func need(txs ...[]byte) int {
	n := 0
	for _, tx := range txs {
		n += 1 + (len(tx)+62)/63
	}
	return n
}

func same(a, b [][]byte) bool { return slices.EqualFunc(a, b, bytes.Equal) }

// tells is all that a Log has to tell.
func tells(t *testing.T, l *wal.Log, snapshot []byte, txs ...[]byte) {
	t.Helper()
	if got := l.Snapshot(); !bytes.Equal(got, snapshot) {
		t.Errorf("Snapshot: %x, not %x", got, snapshot)
	}
	if got := l.Txs(); !same(got, txs) {
		t.Errorf("Txs: %x, not %x", got, txs)
	}
	var all [][]byte
	for number, tx := range l.All() {
		if number != len(all) {
			t.Errorf("All: number %d behind %d transactions", number, len(all))
		}
		all = append(all, tx)
	}
	if !same(all, txs) {
		t.Errorf("All: %x, not %x", all, txs)
	}
	used := need(txs...)
	if got := l.Used(); got != used {
		t.Errorf("Used: %d, not %d", got, used)
	}
	if free := l.Slots() - used; free == 0 && l.Room(0) || free > 0 && !l.Room(63*(free-1)) || l.Room(63*max(free-1, 0)+1) {
		t.Errorf("Room of %d free sectors: %v %v %v", free, l.Room(0), l.Room(63*(free-1)), l.Room(63*(free-1)+1))
	}
}

// found holds what a Log of the disk, opened twice, tells against what it should.
func found(t *testing.T, d *disk.Disk, snapshot []byte, txs ...[]byte) {
	t.Helper()
	for range 2 {
		tells(t, logOf(t, d), snapshot, txs...)
	}
}

// P12.1 to P12.4: the chapter's examples, on one disk.
func TestExamples(t *testing.T) {
	s := stored(t, 64)
	l := opened(t, s)
	if s.Slots() != 32 || len(l.Snapshot()) != 0 || len(l.Txs()) != 0 || l.Used() != 0 {
		t.Errorf("Format, Open: %x %x %d", l.Snapshot(), l.Txs(), l.Used())
	}
	x := bytes.Repeat([]byte{'x'}, 64)
	appends(t, l, x, nil)
	for _, m := range []*wal.Log{l, opened(t, s)} {
		if got := m.Txs(); len(got) != 2 || !bytes.Equal(got[0], x) || len(got[1]) != 0 || m.Used() != 4 {
			t.Errorf("behind two: %x, %d", got, m.Used())
		}
	}
	for _, n := range []struct{ bytes, sectors int }{{0, 1}, {63, 2}, {64, 3}, {-1, 0}, {1954, 33}, {1700, 28}, {1, 2}} {
		if got := wal.Need(n.bytes); got != n.sectors {
			t.Errorf("Need(%d): %d, not %d", n.bytes, got, n.sectors)
		}
	}
	answers(t, "Append of 1954 bytes", l.Append(make([]byte, 1954)), api.ErrFull)
	answers(t, "Append of 1700 bytes", l.Append(make([]byte, 1700)), api.OK)
	answers(t, "Append of 1 byte", l.Append([]byte{1}), api.ErrFull)
	checkpoint(t, l, []byte("y"))
	if string(l.Snapshot()) != "y" || len(l.Txs()) != 0 || l.Used() != 0 {
		t.Errorf("Checkpoint(y): %x %x %d", l.Snapshot(), l.Txs(), l.Used())
	}
	d := s.Disk()
	arm(t, d, 3)
	before := d.Ops()
	answers(t, "Append on the armed disk", l.Append(make([]byte, 64)), api.ErrDead)
	ops(t, d, before+3)
	crash(t, d)
	found(t, d, []byte("y"))
}

// R4, P12.1 to P12.3: each call of nil.
func TestNil(t *testing.T) {
	unopened(t, nil, api.ErrNil)
	var l *wal.Log
	if l.Snapshot() != nil || l.Txs() != nil || l.Used() != 0 {
		t.Errorf("of nil: %x %x %d", l.Snapshot(), l.Txs(), l.Used())
	}
	all := l.All()
	for range 2 {
		for number, tx := range all {
			t.Errorf("All of nil: %d %x", number, tx)
		}
	}
	for _, n := range []int{math.MinInt, -1, 0, 1, 63, math.MaxInt} {
		if l.Room(n) {
			t.Errorf("Room(%d) of nil", n)
		}
	}
	for _, b := range [][]byte{nil, {}, {1}, make([]byte, 100000)} {
		answers(t, "Append", l.Append(b), api.ErrNil)
		answers(t, "Checkpoint", l.Checkpoint(b), api.ErrNil)
	}
}

// P12.1: a Store whose snapshot can't be read: its error, whatever the log has.
func TestOpenWithoutSnapshot(t *testing.T) {
	s := stored(t, 64)
	l := opened(t, s)
	checkpoint(t, l, text(1, 100))
	appends(t, l, text(2, 10))
	d := s.Disk()

	spoilt := storeOf(t, d.Copy())
	answers(t, "Write", spoilt.Disk().Write(2+15, api.Block{7}), api.OK) // the snapshot of turn 1 is in place 1
	unopened(t, spoilt, api.ErrFormat)
	unopened(t, spoilt, api.ErrFormat)

	gone := storeOf(t, d.Copy())
	for i := range 2 {
		answers(t, "Write", gone.Disk().Write(i, api.Block{}), api.OK)
	}
	unopened(t, gone, api.ErrFormat)

	cut(t, d)
	unopened(t, s, api.ErrDead)
	unopened(t, s, api.ErrDead)
	crash(t, d)
	tells(t, opened(t, s), text(1, 100), text(2, 10))
}

// P12.1: Open changes nothing of the disk, whatever the log has, and whether it is armed.
func TestOpenChangesNothing(t *testing.T) {
	s := stored(t, 64)
	appends(t, opened(t, s), text(1, 100), nil, text(2, 63))
	put(t, s, 20, api.Block{5})
	d := s.Disk()
	want, before := image(t, d), d.Ops()
	arm(t, d, 0)
	for range 3 {
		tells(t, opened(t, s), nil, text(1, 100), nil, text(2, 63))
	}
	holds(t, d, want)
	pending(t, d, logAt(64)+20)
	ops(t, d, before)
}

// P12.2: what a Log tells is what was there at Open and was done by it since: not what others do to the disk, nor whether it has power.
func TestTellsWhatWasThere(t *testing.T) {
	s := stored(t, 64)
	l := opened(t, s)
	checkpoint(t, l, text(1, 100))
	appends(t, l, text(2, 70), nil)
	m := opened(t, s)
	for i := range s.Slots() {
		put(t, s, i, api.Block{9})
	}
	answers(t, "Take", s.Take(text(3, 50)), api.OK)
	for _, each := range []*wal.Log{l, m} {
		tells(t, each, text(1, 100), text(2, 70), nil)
	}
	cut(t, s.Disk())
	for _, each := range []*wal.Log{l, m} {
		tells(t, each, text(1, 100), text(2, 70), nil)
	}
	crash(t, s.Disk())
	tells(t, opened(t, s), text(3, 50))
}

// P12.2: Need and Room at the edges that the chapter names.
func TestNeedAndRoom(t *testing.T) {
	for _, x := range []struct{ n, want int }{
		{math.MinInt, 0}, {math.MinInt + 1, 0}, {math.MinInt32, 0}, {-64, 0}, {-63, 0}, {-62, 0}, {-1, 0},
		{0, 1}, {1, 2}, {62, 2}, {63, 2}, {64, 3}, {125, 3}, {126, 3}, {127, 4}, {1890, 31}, {1953, 32}, {1954, 33},
		{math.MaxInt32, 34087044}, {math.MaxInt - 7, math.MaxInt/63 + 1}, {math.MaxInt - 6, math.MaxInt/63 + 2}, {math.MaxInt, math.MaxInt/63 + 2},
	} {
		if got := wal.Need(x.n); got != x.want {
			t.Errorf("Need(%d): %d, not %d", x.n, got, x.want)
		}
	}
	for n := range 20000 {
		want := 1
		for left := n; left > 0; left -= 63 {
			want++
		}
		if got := wal.Need(n); got != want {
			t.Fatalf("Need(%d): %d, not %d", n, got, want)
		}
	}
}

// P12.2: Room behind transactions that leave all sectors, some, one and none.
func TestRoom(t *testing.T) {
	for _, n := range []int{64, 65, 66, 67, 512} {
		s := stored(t, n)
		l := opened(t, s)
		for free := s.Slots(); free >= 0; free-- {
			most := 63 * (free - 1)
			for _, size := range []int{math.MinInt, math.MinInt + 1, -64, -63, -1, 0, 1, 62, 63, 64, 126, 127, most - 63, most - 1, most, most + 1, most + 63, 63 * s.Slots(), math.MaxInt - 1, math.MaxInt} {
				want := size >= 0 && size <= most
				if got := l.Room(size); got != want {
					t.Errorf("%d sectors, %d free: Room(%d): %v", n, free, size, got)
				}
			}
			if free > 0 {
				appends(t, l, nil)
			}
		}
	}
}
