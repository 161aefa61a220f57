package extent_test

import (
	"bytes"
	"crypto/sha256"
	"encoding/binary"
	"math"
	"slices"
	"testing"

	"hollowtree/api"
	"hollowtree/disk"
	"hollowtree/extent"
)

// block is a sector's bytes, others for each n below 65536; of 0 all noughts.
func block(n int) api.Block {
	var b api.Block
	for i := range b {
		b[i] = byte(n + n*i*7 + n>>8)
	}
	return b
}

// text is n bytes, others for each kind; the last one is no nought.
func text(kind, n int) []byte {
	b := make([]byte, n)
	for i := range b {
		b[i] = byte(i*i + 31*i*kind + 5*kind + i>>6)
	}
	if n > 0 {
		b[n-1] |= 1
	}
	return b
}

// half is the chapter's h.
func half(sectors int) int { return (sectors - 2) / 4 }

// first is the first sector of a place, or, of 2, of the log.
func first(sectors, place int) int { return 2 + place*half(sectors) }

// sealed is a superblock of 48 bytes, right or not, with the hash that belongs to them.
func sealed(front []byte) api.Block {
	var b api.Block
	copy(b[:48], front)
	hash := sha256.Sum256(b[:48])
	copy(b[48:], hash[:16])
	return b
}

// says is a right superblock by the chapter's words.
func says(place byte, turn uint64, size uint32, hash []byte) api.Block {
	b := append([]byte("hollowtree"), place, 0)
	b = binary.LittleEndian.AppendUint64(b, turn)
	b = binary.LittleEndian.AppendUint32(b, size)
	return sealed(append(b, hash[:16]...))
}

// super is the superblock of a snapshot.
func super(place byte, turn uint64, snapshot []byte) api.Block {
	hash := sha256.Sum256(snapshot)
	return says(place, turn, uint32(len(snapshot)), hash[:])
}

// The calls, with the test's end, or an error of it, where one is not answered so.
func made(t *testing.T, sectors int) *disk.Disk {
	t.Helper()
	d, err := disk.New(sectors)
	if d == nil || err != api.OK {
		t.Fatalf("New(%d): %v %d", sectors, d, err)
	}
	return d
}

// used is a disk whose sectors all hold something.
func used(t *testing.T, sectors int) *disk.Disk {
	t.Helper()
	d := made(t, sectors)
	for i := range sectors {
		write(t, d, i, block(1000+i))
	}
	answers(t, "Sync", d.Sync(), api.OK)
	return d
}

func write(t *testing.T, d *disk.Disk, i int, b api.Block) {
	t.Helper()
	answers(t, "Write", d.Write(i, b), api.OK)
}

// lay writes bytes from a sector on, filled with noughts.
func lay(t *testing.T, d *disk.Disk, i int, b []byte) {
	t.Helper()
	for piece := range slices.Chunk(b, api.Sector) {
		var x api.Block
		copy(x[:], piece)
		write(t, d, i, x)
		i++
	}
}

func crash(t *testing.T, d *disk.Disk, keep ...bool) {
	t.Helper()
	answers(t, "Crash", d.Crash(keep), api.OK)
}

func arm(t *testing.T, d *disk.Disk, n int) {
	t.Helper()
	answers(t, "Arm", d.Arm(n), api.OK)
}

// cut lets the power go.
func cut(t *testing.T, d *disk.Disk) {
	t.Helper()
	arm(t, d, 0)
	answers(t, "Sync behind the last", d.Sync(), api.ErrDead)
}

func format(t *testing.T, d *disk.Disk) *extent.Store {
	t.Helper()
	s, err := extent.Format(d)
	if s == nil || err != api.OK {
		t.Fatalf("Format: %v %d", s, err)
	}
	return s
}

func opened(t *testing.T, d *disk.Disk) *extent.Store {
	t.Helper()
	s, err := extent.Open(d)
	if s == nil || err != api.OK {
		t.Fatalf("Open: %v %d", s, err)
	}
	return s
}

func take(t *testing.T, s *extent.Store, b []byte) {
	t.Helper()
	answers(t, "Take", s.Take(b), api.OK)
}

func answers(t *testing.T, what string, got, want api.Errno) {
	t.Helper()
	if got != want {
		t.Errorf("%s: %d, not %d", what, got, want)
	}
}

func unformatted(t *testing.T, d *disk.Disk, want api.Errno) {
	t.Helper()
	if s, err := extent.Format(d); s != nil || err != want {
		t.Errorf("Format: %v %d, not %d", s, err, want)
	}
}

func unopened(t *testing.T, d *disk.Disk, want api.Errno) {
	t.Helper()
	if s, err := extent.Open(d); s != nil || err != want {
		t.Errorf("Open: %v %d, not %d", s, err, want)
	}
}

func unread(t *testing.T, s *extent.Store, want api.Errno) {
	t.Helper()
	if b, err := s.Snapshot(); len(b) != 0 || err != want {
		t.Errorf("Snapshot: %x %d, not none and %d", b, err, want)
	}
}

func turn(t *testing.T, s *extent.Store, want uint64) {
	t.Helper()
	if got := s.Turn(); got != want {
		t.Errorf("Turn: %d, not %d", got, want)
	}
}

// tells is what a Store has to answer of its snapshot.
func tells(t *testing.T, s *extent.Store, wantTurn uint64, want []byte) {
	t.Helper()
	turn(t, s, wantTurn)
	if got, err := s.Snapshot(); !bytes.Equal(got, want) || err != api.OK {
		t.Errorf("Snapshot: %x %d, not %x", got, err, want)
	}
}

// room is what a Store has to answer of its disk.
func room(t *testing.T, s *extent.Store, sectors int) {
	t.Helper()
	h := half(sectors)
	if got := s.Room(); got != 64*h {
		t.Errorf("Room of %d sectors: %d, not %d", sectors, got, 64*h)
	}
	if got := s.Slots(); got != sectors-2-2*h {
		t.Errorf("Slots of %d sectors: %d, not %d", sectors, got, sectors-2-2*h)
	}
}

// image is what all sectors hold.
func image(t *testing.T, d *disk.Disk) []api.Block {
	t.Helper()
	out := make([]api.Block, d.Len())
	for i := range out {
		b, err := d.Read(i)
		if err != api.OK {
			t.Fatalf("Read(%d): %d", i, err)
		}
		out[i] = b
	}
	return out
}

// holds holds all sectors of a disk against those that it should have.
func holds(t *testing.T, d *disk.Disk, want []api.Block) {
	t.Helper()
	for i, got := range image(t, d) {
		if got != want[i] {
			t.Errorf("sector %d: %x, not %x", i, got, want[i])
		}
	}
}

func pending(t *testing.T, d *disk.Disk, want ...int) {
	t.Helper()
	if got := d.Pending(); !slices.Equal(got, want) {
		t.Errorf("Pending: %v, not %v", got, want)
	}
}

func ops(t *testing.T, d *disk.Disk, want int) {
	t.Helper()
	if got := d.Ops(); got != want {
		t.Errorf("Ops: %d, not %d", got, want)
	}
}

// P11.1 to P11.3: the chapter's examples, on one disk as far as the chapter goes on with one.
func TestExamples(t *testing.T) {
	d := made(t, 64)
	s := format(t, d)
	if s.Room() != 960 || s.Slots() != 32 {
		t.Errorf("Room, Slots: %d, %d", s.Room(), s.Slots())
	}
	tells(t, s, 0, nil)
	take(t, s, []byte{1, 2, 3})
	tells(t, s, 1, []byte{1, 2, 3})
	tells(t, opened(t, d), 1, []byte{1, 2, 3})
	answers(t, "Take of 961 bytes", s.Take(make([]byte, 961)), api.ErrLong)
	if b, err := s.Slot(32); b != (api.Block{}) || err != api.ErrArg {
		t.Errorf("Slot(32): %x %d", b, err)
	}
	unopened(t, made(t, 64), api.ErrFormat)
	unformatted(t, made(t, 63), api.ErrArg)
}

// P11.1 to P11.3: Room and Slots, in numbers.
func TestDivided(t *testing.T) {
	for _, x := range []struct{ sectors, room, slots int }{
		{64, 960, 32}, {65, 960, 33}, {66, 1024, 32}, {67, 1024, 33}, {68, 1024, 34}, {69, 1024, 35}, {70, 1088, 34},
		{128, 1984, 64}, {509, 8064, 255}, {510, 8128, 254}, {511, 8128, 255}, {512, 8128, 256},
	} {
		d := made(t, x.sectors)
		for _, s := range []*extent.Store{format(t, d), opened(t, d)} {
			if s.Room() != x.room || s.Slots() != x.slots {
				t.Errorf("%d sectors: Room %d, Slots %d, not %d, %d", x.sectors, s.Room(), s.Slots(), x.room, x.slots)
			}
		}
	}
}

// P11.1: disks of every size: too few sectors, or a Store whose Room and Slots are as the chapter divides; with power and without.
func TestSizes(t *testing.T) {
	for n := 1; n <= 512; n++ {
		d := made(t, n)
		if n < 64 {
			unformatted(t, d, api.ErrArg)
			unopened(t, d, api.ErrArg)
			cut(t, d)
			unformatted(t, d, api.ErrArg)
			unopened(t, d, api.ErrArg)
			crash(t, d)
			ops(t, d, 0)
			continue
		}
		unopened(t, d, api.ErrFormat)
		s := format(t, d)
		o := opened(t, d)
		cut(t, d)
		unformatted(t, d, api.ErrDead)
		unopened(t, d, api.ErrDead)
		room(t, s, n)
		room(t, o, n)
	}
}

// P11.1: a disk that is too small is so whatever stands on it.
func TestSmallWithSuperblocks(t *testing.T) {
	for _, n := range []int{2, 6, 32, 62, 63} {
		d := made(t, n)
		write(t, d, 0, super(0, 0, nil))
		write(t, d, 1, super(1, 1, nil))
		want := image(t, d)
		unopened(t, d, api.ErrArg)
		unformatted(t, d, api.ErrArg)
		holds(t, d, want)
		ops(t, d, 2)
	}
}

// R4, P11.1 to P11.3: each call of nil.
func TestNil(t *testing.T) {
	unformatted(t, nil, api.ErrNil)
	unopened(t, nil, api.ErrNil)
	var s *extent.Store
	unread(t, s, api.ErrNil)
	turn(t, s, 0)
	for _, b := range [][]byte{nil, {1}, make([]byte, 10000)} {
		answers(t, "Take", s.Take(b), api.ErrNil)
	}
	if s.Room() != 0 || s.Slots() != 0 || s.Disk() != nil {
		t.Errorf("Room, Slots, Disk: %d %d %v", s.Room(), s.Slots(), s.Disk())
	}
	for _, i := range []int{0, 1, -1, 31, 32, math.MinInt, math.MaxInt} {
		if b, err := s.Slot(i); b != (api.Block{}) || err != api.ErrNil {
			t.Errorf("Slot(%d): %x %d", i, b, err)
		}
		answers(t, "Put", s.Put(i, block(1)), api.ErrNil)
	}
	answers(t, "Sync", s.Sync(), api.ErrNil)
}

// P11.1: Format writes just the superblock of turn 0 and noughts, and syncs, whatever the disk held.
func TestFormat(t *testing.T) {
	for _, n := range []int{64, 65, 66, 67, 512} {
		for _, d := range []*disk.Disk{made(t, n), used(t, n)} {
			want := image(t, d)
			want[0], want[1] = super(0, 0, nil), api.Block{}
			before := d.Ops()
			s := format(t, d)
			holds(t, d, want)
			pending(t, d)
			ops(t, d, before+3)
			tells(t, s, 0, nil)
			tells(t, opened(t, d), 0, nil)
			crash(t, d)
			holds(t, d, want)
		}
	}
}

// P11.1: Format on an armed disk answers the error of the first write or sync that has one; those ahead of it are done, in their order.
func TestFormatCut(t *testing.T) {
	for n := range 4 {
		d := used(t, 64)
		want, before := image(t, d), d.Ops()
		arm(t, d, n)
		if n == 3 {
			format(t, d)
			ops(t, d, before+3)
			continue
		}
		unformatted(t, d, api.ErrDead)
		ops(t, d, before+n)
		pending(t, d, []int{0, 1}[:n]...)
		unformatted(t, d, api.ErrDead)
		ops(t, d, before+n)
		if n > 0 {
			want[0] = super(0, 0, nil)
		}
		if n > 1 {
			want[1] = api.Block{}
		}
		crash(t, d, true, true)
		holds(t, d, want)
	}
}

// P11.1: a disk that was used is formatted anew: its snapshot has no bytes, its turn is 0 again, the log's sectors stay.
func TestFormatAnew(t *testing.T) {
	for turns := range 4 {
		d := made(t, 66)
		s := format(t, d)
		answers(t, "Put", s.Put(3, block(9)), api.OK)
		for k := range turns {
			take(t, s, text(k, 100+k))
		}
		again := format(t, d)
		tells(t, again, 0, nil)
		tells(t, opened(t, d), 0, nil)
		if b, err := again.Slot(3); b != block(9) || err != api.OK {
			t.Errorf("Slot(3): %x %d", b, err)
		}
		take(t, again, []byte{7})
		tells(t, again, 1, []byte{7})
	}
}

// P11.1: Open changes nothing of a disk, whether it finds a snapshot or not.
func TestOpenChangesNothing(t *testing.T) {
	good := made(t, 64)
	take(t, format(t, good), text(1, 500))
	for _, d := range []*disk.Disk{good, made(t, 64), used(t, 64)} {
		write(t, d, 60, block(5))
		want, before := image(t, d), d.Ops()
		extent.Open(d)
		holds(t, d, want)
		pending(t, d, 60)
		ops(t, d, before)
	}
}
