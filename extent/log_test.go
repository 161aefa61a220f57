package extent_test

import (
	"math"
	"testing"

	"hollowtree/api"
	"hollowtree/extent"
)

func slot(t *testing.T, s *extent.Store, i int, want api.Block) {
	t.Helper()
	if b, err := s.Slot(i); b != want || err != api.OK {
		t.Errorf("Slot(%d): %x %d, not %x", i, b, err, want)
	}
}

func unslot(t *testing.T, s *extent.Store, i int, want api.Errno) {
	t.Helper()
	if b, err := s.Slot(i); b != (api.Block{}) || err != want {
		t.Errorf("Slot(%d): %x %d, not noughts and %d", i, b, err, want)
	}
}

// noSlots are numbers that none of so many slots has.
func noSlots(slots int) []int {
	return []int{-1, -2, -slots, -slots - 1, slots, slots + 1, slots + 40, 2 * slots, 512, 1 << 32, math.MinInt32, math.MaxInt32, math.MinInt, math.MinInt + 1, math.MaxInt - slots, math.MaxInt - 32, math.MaxInt - 1, math.MaxInt}
}

// P11.3: each of the log's sectors, from the first to the last: Put writes just that one, Slot tells it.
func TestSlots(t *testing.T) {
	for _, n := range []int{64, 65, 66, 67, 512} {
		d := used(t, n)
		s := format(t, d)
		want := image(t, d)
		from := first(n, 2)
		if from+s.Slots() != n {
			t.Errorf("%d sectors: Slots %d behind %d", n, s.Slots(), from)
		}
		for i := range s.Slots() {
			slot(t, s, i, want[from+i])
			before := d.Ops()
			answers(t, "Put", s.Put(i, block(i+1)), api.OK)
			want[from+i] = block(i + 1)
			pending(t, d, from+i)
			ops(t, d, before+1)
			slot(t, s, i, block(i+1))
			holds(t, d, want)
			answers(t, "Sync", s.Sync(), api.OK)
			pending(t, d)
			ops(t, d, before+2)
		}
		tells(t, s, 0, nil)
	}
}

// P11.3: numbers that no sector of the log has, with power and without; nothing is written, and the arming is as it was.
func TestNoSlot(t *testing.T) {
	for _, n := range []int{64, 67, 512} {
		d := made(t, n)
		s := format(t, d)
		want, before := image(t, d), d.Ops()
		arm(t, d, 0)
		for _, i := range noSlots(s.Slots()) {
			unslot(t, s, i, api.ErrArg)
			answers(t, "Put", s.Put(i, block(1)), api.ErrArg)
		}
		holds(t, d, want)
		ops(t, d, before)
		answers(t, "Sync behind the last", s.Sync(), api.ErrDead)
		for _, i := range noSlots(s.Slots()) {
			unslot(t, s, i, api.ErrArg)
			answers(t, "Put without power", s.Put(i, block(1)), api.ErrArg)
		}
		for _, i := range []int{0, 1, s.Slots() - 1} {
			unslot(t, s, i, api.ErrDead)
			answers(t, "Put without power", s.Put(i, block(1)), api.ErrDead)
		}
		crash(t, d)
		holds(t, d, want)
		ops(t, d, before)
	}
}

// P11.3: Put and Sync on an armed disk; Put is not safe ahead of a Sync, and safe behind it.
func TestPutCut(t *testing.T) {
	d := made(t, 64)
	s := format(t, d)
	answers(t, "Put", s.Put(0, block(1)), api.OK)
	answers(t, "Put", s.Put(31, block(2)), api.OK)
	answers(t, "Sync", s.Sync(), api.OK)
	arm(t, d, 1)
	answers(t, "Put", s.Put(0, block(3)), api.OK)
	answers(t, "Put behind the last", s.Put(31, block(4)), api.ErrDead)
	crash(t, d)
	slot(t, s, 0, block(1))
	slot(t, s, 31, block(2))
	answers(t, "Put", s.Put(0, block(5)), api.OK)
	arm(t, d, 0)
	slot(t, s, 0, block(5))
	answers(t, "Sync behind the last", s.Sync(), api.ErrDead)
	answers(t, "Sync without power", s.Sync(), api.ErrDead)
	pending(t, d, first(64, 2))
	crash(t, d, true)
	slot(t, s, 0, block(5))
	slot(t, s, 31, block(2))
}

// P11.3: the same sector put several times holds what was put last; Slot changes nothing.
func TestPutAnew(t *testing.T) {
	d := made(t, 64)
	s := format(t, d)
	for k := range 5 {
		answers(t, "Put", s.Put(7, block(k)), api.OK)
		slot(t, s, 7, block(k))
		slot(t, s, 7, block(k))
		slot(t, s, 6, api.Block{})
		slot(t, s, 8, api.Block{})
	}
	at := first(64, 2) + 7
	pending(t, d, at, at, at, at, at)
	crash(t, d, false, true, false, true)
	slot(t, s, 7, block(3))
}

// P11.3: Sync makes safe all that is pending on the disk, whoever wrote it; Disk is the one that was handed in.
func TestSyncAndDisk(t *testing.T) {
	d := made(t, 64)
	s := format(t, d)
	o := opened(t, d)
	if s.Disk() != d || o.Disk() != d {
		t.Fatal("Disk: another one")
	}
	answers(t, "Put", o.Put(4, block(1)), api.OK)
	write(t, s.Disk(), 20, block(2))
	before := d.Ops()
	answers(t, "Sync", s.Sync(), api.OK)
	ops(t, d, before+1)
	pending(t, d)
	crash(t, d)
	slot(t, s, 4, block(1))
	sector(t, d, 20, block(2))
}

// P11.4: the log's sectors are not touched by Take, whether what they hold is safe or pending; behind Take it is safe.
func TestTakeLeavesTheLog(t *testing.T) {
	for _, length := range []int{0, 1, 64, 500, 959, 960} {
		d := used(t, 64)
		s := format(t, d)
		for i := range s.Slots() {
			if i%3 == 0 {
				answers(t, "Put", s.Put(i, block(i+500)), api.OK)
			}
			if i == 20 {
				answers(t, "Sync", s.Sync(), api.OK)
			}
		}
		want := image(t, d)[first(64, 2):]
		for k := range 3 {
			take(t, s, text(k, length))
			for i, b := range want {
				slot(t, s, i, b)
			}
		}
		crash(t, d)
		for i, b := range want {
			slot(t, s, i, b)
		}
	}
}
