package disk_test

import (
	"math"
	"slices"
	"testing"

	"hollowtree/api"
	"hollowtree/disk"
)

// block is a sector's bytes, others for each n below 65536; of 0 all noughts.
func block(n int) api.Block {
	var b api.Block
	for i := range b {
		b[i] = byte(n + n*i*7 + n>>8)
	}
	return b
}

// The calls, with the test's end, or an error of it, where one is not answered so.
func made(t *testing.T, sectors int) *disk.Disk {
	t.Helper()
	d, err := disk.New(sectors)
	if d == nil || err != api.OK {
		t.Fatalf("New(%d): %v %d", sectors, d, err)
	}
	return d
}

func write(t *testing.T, d *disk.Disk, i int, b api.Block) {
	t.Helper()
	answers(t, "Write", d.Write(i, b), api.OK)
}

func sync(t *testing.T, d *disk.Disk) {
	t.Helper()
	answers(t, "Sync", d.Sync(), api.OK)
}

func arm(t *testing.T, d *disk.Disk, n int) {
	t.Helper()
	answers(t, "Arm", d.Arm(n), api.OK)
}

func crash(t *testing.T, d *disk.Disk, keep ...bool) {
	t.Helper()
	answers(t, "Crash", d.Crash(keep), api.OK)
}

func answers(t *testing.T, what string, got, want api.Errno) {
	t.Helper()
	if got != want {
		t.Errorf("%s: %d, not %d", what, got, want)
	}
}

func holds(t *testing.T, d *disk.Disk, i int, want api.Block) {
	t.Helper()
	if got, err := d.Read(i); got != want || err != api.OK {
		t.Errorf("Read(%d): %x %d, not %x", i, got, err, want)
	}
}

func unread(t *testing.T, d *disk.Disk, i int, want api.Errno) {
	t.Helper()
	if got, err := d.Read(i); got != (api.Block{}) || err != want {
		t.Errorf("Read(%d): %x %d, not noughts and %d", i, got, err, want)
	}
}

func pending(t *testing.T, d *disk.Disk, want ...int) {
	t.Helper()
	if got := d.Pending(); !slices.Equal(got, want) {
		t.Errorf("Pending: %v, not %v", got, want)
	}
}

func ops(t *testing.T, d *disk.Disk, want int) {
	t.Helper()
	if got := d.Ops(); got != want {
		t.Errorf("Ops: %d, not %d", got, want)
	}
}

func dead(t *testing.T, d *disk.Disk, want bool) {
	t.Helper()
	if got := d.Dead(); got != want {
		t.Errorf("Dead: %v, not %v", got, want)
	}
}

// unmade are sectors that no disk has so many of.
var unmade = []int{0, -1, -2, -512, 513, 514, 1024, 1 << 16, 1<<32 + 1, math.MinInt32, math.MaxInt32, math.MinInt, math.MinInt + 1, math.MaxInt}

// nowhere are sectors that a disk of so many does not have.
func nowhere(sectors int) []int {
	return []int{-1, -2, -sectors, sectors, sectors + 1, 2 * sectors, 1 << 32, 1<<32 + 1, math.MinInt32, math.MaxInt32, math.MinInt, math.MinInt + 1, math.MaxInt - 1, math.MaxInt}
}

// P10.1 to P10.5: the chapter's examples, on one disk.
func TestExamples(t *testing.T) {
	x, y, z := block(1), block(2), block(3)
	d := made(t, 4)
	write(t, d, 1, x)
	write(t, d, 2, y)
	pending(t, d, 1, 2)
	holds(t, d, 1, x)

	crash(t, d, false, true)
	holds(t, d, 1, api.Block{})
	holds(t, d, 2, y)
	pending(t, d)

	write(t, d, 1, x)
	sync(t, d)
	write(t, d, 1, z)
	crash(t, d)
	holds(t, d, 1, x)

	arm(t, d, 1)
	write(t, d, 0, x)
	answers(t, "Write", d.Write(0, y), api.ErrDead)
	dead(t, d, true)
	unread(t, d, 0, api.ErrDead)

	crash(t, d, true)
	holds(t, d, 0, x)
	ops(t, d, 6)

	answers(t, "Write(4)", d.Write(4, x), api.ErrArg)
	for _, n := range []int{0, 513} {
		if got, err := disk.New(n); got != nil || err != api.ErrArg {
			t.Errorf("New(%d): %v %d", n, got, err)
		}
	}
}

// P10.1: New and Len, of as many sectors as may be, and of all others.
func TestNew(t *testing.T) {
	for n := 1; n <= 512; n++ {
		d := made(t, n)
		if got := d.Len(); got != n {
			t.Errorf("Len: %d, not %d", got, n)
		}
		for i := range n {
			holds(t, d, i, api.Block{})
		}
		dead(t, d, false)
		pending(t, d)
		ops(t, d, 0)
	}
	for _, n := range unmade {
		if d, err := disk.New(n); d != nil || err != api.ErrArg {
			t.Errorf("New(%d): %v %d", n, d, err)
		}
	}
}

// P10.1: a new disk is not armed: it does more than a disk that was armed by some small number would.
func TestNewUnarmed(t *testing.T) {
	d := made(t, 3)
	for i := range 3000 {
		write(t, d, i%3, block(i))
		if i%7 == 0 {
			sync(t, d)
		}
	}
	dead(t, d, false)
	ops(t, d, 3429)
}

// P10.1: two disks have nothing in common, and Len stays as it is, whatever is done.
func TestNewApart(t *testing.T) {
	one, other := made(t, 2), made(t, 2)
	write(t, one, 0, block(1))
	sync(t, one)
	write(t, one, 1, block(2))
	arm(t, one, 0)
	answers(t, "Sync", one.Sync(), api.ErrDead)
	holds(t, other, 0, api.Block{})
	holds(t, other, 1, api.Block{})
	pending(t, other)
	dead(t, other, false)
	ops(t, other, 0)
	if one.Len() != 2 || other.Len() != 2 {
		t.Errorf("Len: %d, %d", one.Len(), other.Len())
	}
	crash(t, one)
	if one.Len() != 2 {
		t.Errorf("Len behind Crash: %d", one.Len())
	}
}

// P10.2: the first, the last and all between can be read and written, each by itself.
func TestEachSector(t *testing.T) {
	for _, n := range []int{1, 2, 4, 511, 512} {
		d := made(t, n)
		for i := range n {
			write(t, d, i, block(i+1))
		}
		for i := range n {
			holds(t, d, i, block(i+1))
		}
		sync(t, d)
		write(t, d, 0, block(2000))
		write(t, d, n-1, block(3000))
		for i := 1; i < n-1; i++ {
			holds(t, d, i, block(i+1))
		}
		if n > 1 {
			holds(t, d, 0, block(2000))
		}
		holds(t, d, n-1, block(3000))
	}
}

// P10.2: ErrArg where there is no sector; such a write leaves all as it was.
func TestNoSector(t *testing.T) {
	for _, n := range []int{1, 4, 512} {
		d := made(t, n)
		write(t, d, 0, block(1))
		sync(t, d)
		write(t, d, n-1, block(2))
		for _, i := range nowhere(n) {
			unread(t, d, i, api.ErrArg)
			answers(t, "Write", d.Write(i, block(9)), api.ErrArg)
			pending(t, d, n-1)
			ops(t, d, 3)
			dead(t, d, false)
		}
		holds(t, d, n-1, block(2))
		crash(t, d)
		for i := 1; i < n; i++ {
			holds(t, d, i, api.Block{})
		}
		holds(t, d, 0, block(1))
	}
}

// P10.2: a sector holds what the last write of it said, pending or not, each byte of it.
func TestLastWrite(t *testing.T) {
	d := made(t, 3)
	for i := 1; i <= 20; i++ {
		write(t, d, 1, block(i))
		holds(t, d, 1, block(i))
		if i%6 == 0 {
			sync(t, d)
			holds(t, d, 1, block(i))
		}
		write(t, d, 2, block(100+i))
		holds(t, d, 1, block(i))
		holds(t, d, 2, block(100+i))
	}
	holds(t, d, 0, api.Block{})
	write(t, d, 1, api.Block{})
	holds(t, d, 1, api.Block{})
	for i := range api.Sector {
		var b api.Block
		b[i] = 255
		write(t, d, 0, b)
		holds(t, d, 0, b)
	}
}

// P10.2: behind Sync none is pending, and a crash takes nothing of what sectors hold; what is written behind it is not safe.
func TestSync(t *testing.T) {
	d := made(t, 4)
	sync(t, d)
	ops(t, d, 1)
	for _, i := range []int{3, 0, 3} {
		write(t, d, i, block(10+i+d.Ops()))
	}
	sync(t, d)
	pending(t, d)
	sync(t, d)
	pending(t, d)
	ops(t, d, 6)
	write(t, d, 3, block(99))
	pending(t, d, 3)
	crash(t, d)
	holds(t, d, 0, block(12))
	holds(t, d, 3, block(16))
	holds(t, d, 1, api.Block{})
	crash(t, d)
	crash(t, d, true, true)
	holds(t, d, 3, block(16))
	ops(t, d, 7)
}

// P10.3: Pending behind writes of the same and of unlike sectors, of the same bytes too, behind Sync, behind what was refused, behind Crash.
func TestPending(t *testing.T) {
	d := made(t, 5)
	pending(t, d)
	write(t, d, 4, block(1))
	pending(t, d, 4)
	write(t, d, 4, block(1))
	write(t, d, 0, api.Block{})
	write(t, d, 4, block(2))
	write(t, d, 2, block(1))
	write(t, d, 0, api.Block{})
	pending(t, d, 4, 4, 0, 4, 2, 0)
	answers(t, "Write(5)", d.Write(5, block(1)), api.ErrArg)
	answers(t, "Write(-1)", d.Write(-1, block(1)), api.ErrArg)
	pending(t, d, 4, 4, 0, 4, 2, 0)
	arm(t, d, 1)
	pending(t, d, 4, 4, 0, 4, 2, 0)
	sync(t, d)
	pending(t, d)
	answers(t, "Write behind the last", d.Write(1, block(1)), api.ErrDead)
	pending(t, d)
	crash(t, d)
	write(t, d, 3, block(3))
	write(t, d, 1, block(3))
	pending(t, d, 3, 1)
	crash(t, d, true, true, true)
	pending(t, d)
	write(t, d, 2, block(4))
	pending(t, d, 2)
	pending(t, d, 2)
}

// P10.3: what is pending is told without power too, the same as with it.
func TestPendingWithoutPower(t *testing.T) {
	d := made(t, 5)
	arm(t, d, 3)
	write(t, d, 2, block(1))
	write(t, d, 1, block(1))
	write(t, d, 2, block(2))
	answers(t, "Sync behind the last", d.Sync(), api.ErrDead)
	pending(t, d, 2, 1, 2)
	answers(t, "Write without power", d.Write(0, block(1)), api.ErrDead)
	pending(t, d, 2, 1, 2)
}

// P10.5: Ops counts what was done, and nothing that was answered with an error, nor any other call.
func TestOps(t *testing.T) {
	d := made(t, 2)
	write(t, d, 0, block(1))
	ops(t, d, 1)
	sync(t, d)
	ops(t, d, 2)
	holds(t, d, 0, block(1))
	pending(t, d)
	arm(t, d, 2)
	dead(t, d, false)
	answers(t, "Write(2)", d.Write(2, block(1)), api.ErrArg)
	ops(t, d, 2)
	write(t, d, 1, block(1))
	write(t, d, 1, block(1))
	ops(t, d, 4)
	answers(t, "Write", d.Write(1, block(1)), api.ErrDead)
	ops(t, d, 4)
	answers(t, "Write", d.Write(1, block(1)), api.ErrDead)
	answers(t, "Sync", d.Sync(), api.ErrDead)
	ops(t, d, 4)
	crash(t, d, true)
	ops(t, d, 4)
	sync(t, d)
	ops(t, d, 5)
	arm(t, d, 0)
	answers(t, "Sync", d.Sync(), api.ErrDead)
	crash(t, d)
	ops(t, d, 5)
}

// P10.1 to P10.5, R4: each call of nil; nil is told ahead of a wrong sector.
func TestNil(t *testing.T) {
	var d *disk.Disk
	for _, i := range append(nowhere(4), 0, 1) {
		unread(t, d, i, api.ErrNil)
		answers(t, "Write", d.Write(i, block(1)), api.ErrNil)
		answers(t, "Arm", d.Arm(i), api.ErrNil)
	}
	answers(t, "Sync", d.Sync(), api.ErrNil)
	answers(t, "Crash(none)", d.Crash(nil), api.ErrNil)
	answers(t, "Crash(true)", d.Crash([]bool{true}), api.ErrNil)
	pending(t, d)
	dead(t, d, false)
	ops(t, d, 0)
	if n := d.Len(); n != 0 {
		t.Errorf("Len: %d", n)
	}
	if c := d.Copy(); c != nil {
		t.Errorf("Copy: %v", c)
	}
}

// R3: what Crash is handed is neither changed nor kept, and the room behind its end is not looked at.
func TestKeepIsLeftAlone(t *testing.T) {
	d := made(t, 4)
	for i := range 4 {
		write(t, d, i, block(i+1))
	}
	room := []bool{true, false, true, true, false}
	keep := room[:2]
	answers(t, "Crash", d.Crash(keep), api.OK)
	if !slices.Equal(room, []bool{true, false, true, true, false}) {
		t.Errorf("keep: %v", room)
	}
	holds(t, d, 0, block(1))
	for i := 1; i < 4; i++ {
		holds(t, d, i, api.Block{})
	}
	for i := range room {
		room[i] = true
	}
	write(t, d, 1, block(9))
	write(t, d, 2, block(9))
	crash(t, d)
	holds(t, d, 1, api.Block{})
	holds(t, d, 2, api.Block{})
}

// R3: what is answered is new memory: changed, it changes nothing of the disk, nor of what is answered later.
func TestAnswersAreNew(t *testing.T) {
	d := made(t, 4)
	for _, i := range []int{3, 1, 1} {
		write(t, d, i, block(i))
	}
	list := d.Pending()
	for k := range list {
		list[k] = 0
	}
	list = append(list, 2, 2)
	pending(t, d, 3, 1, 1)
	write(t, d, 2, block(2))
	pending(t, d, 3, 1, 1, 2)
	if !slices.Equal(list, []int{0, 0, 0, 2, 2}) {
		t.Errorf("what was answered: %v", list)
	}
	b, _ := d.Read(1)
	b[0]++
	holds(t, d, 1, block(1))
	crash(t, d, true, false, true)
	holds(t, d, 3, block(3))
	holds(t, d, 1, block(1))
	holds(t, d, 0, api.Block{})
	holds(t, d, 2, api.Block{})
}

// R3: a block that is changed behind Write is not what the sector holds.
func TestBlockIsNotKept(t *testing.T) {
	d := made(t, 1)
	b := block(1)
	write(t, d, 0, b)
	b[5]++
	holds(t, d, 0, block(1))
	sync(t, d)
	holds(t, d, 0, block(1))
}
