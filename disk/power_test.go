package disk_test

import (
	"math"
	"testing"

	"hollowtree/api"
	"hollowtree/disk"
)

// withoutPower is a disk of four whose power went: sector 0 is safe, writes of 1, 1 and 2 are pending, five writes and syncs were done.
func withoutPower(t *testing.T) *disk.Disk {
	t.Helper()
	d := made(t, 4)
	write(t, d, 0, block(1))
	sync(t, d)
	arm(t, d, 3)
	write(t, d, 1, block(2))
	write(t, d, 1, block(3))
	write(t, d, 2, block(4))
	answers(t, "Write behind the last", d.Write(3, block(5)), api.ErrDead)
	dead(t, d, true)
	return d
}

// P10.2, P10.4: what each call answers without power, ahead of a wrong sector; none of them changes what is there behind a crash.
func TestWithoutPower(t *testing.T) {
	d := withoutPower(t)
	for range 3 {
		for _, i := range append(nowhere(4), 0, 1, 2, 3) {
			unread(t, d, i, api.ErrDead)
			answers(t, "Write", d.Write(i, block(9)), api.ErrDead)
			answers(t, "Arm", d.Arm(i), api.ErrDead)
		}
		answers(t, "Sync", d.Sync(), api.ErrDead)
		dead(t, d, true)
		pending(t, d, 1, 1, 2)
		ops(t, d, 5)
		if n := d.Len(); n != 4 {
			t.Errorf("Len: %d", n)
		}
	}
	crash(t, d, true, true, true)
	dead(t, d, false)
	pending(t, d)
	ops(t, d, 5)
	for i, want := range []api.Block{block(1), block(3), block(4), {}} {
		holds(t, d, i, want)
	}
}

// P10.2, P10.4: armed with n, n writes and syncs are done, in whatever turns; the one behind is not, and the power goes with it.
func TestArm(t *testing.T) {
	for n := range 12 {
		for turns := range 8 {
			d := made(t, 4)
			write(t, d, 3, block(77))
			arm(t, d, n)
			var waiting []int
			waiting = append(waiting, 3)
			for k := range n {
				if turns>>(k%3)&1 == 1 {
					sync(t, d)
					waiting = nil
				} else {
					write(t, d, k%3, block(k+1))
					waiting = append(waiting, k%3)
				}
				dead(t, d, false)
				ops(t, d, k+2)
			}
			holds(t, d, 3, block(77))
			pending(t, d, waiting...)
			if turns%2 == 0 {
				answers(t, "Write behind the last", d.Write(3, block(88)), api.ErrDead)
			} else {
				answers(t, "Sync behind the last", d.Sync(), api.ErrDead)
			}
			dead(t, d, true)
			pending(t, d, waiting...)
			ops(t, d, n+1)
		}
	}
}

// P10.2: nothing is done of the one behind: its bytes are not there, and what was pending is not safe.
func TestNothingOfTheLast(t *testing.T) {
	for _, last := range []string{"write", "sync"} {
		for _, all := range []bool{false, true} {
			d := made(t, 2)
			write(t, d, 0, block(1))
			sync(t, d)
			write(t, d, 0, block(2))
			arm(t, d, 0)
			holds(t, d, 0, block(2))
			if last == "write" {
				answers(t, last, d.Write(0, block(3)), api.ErrDead)
			} else {
				answers(t, last, d.Sync(), api.ErrDead)
			}
			ops(t, d, 3)
			crash(t, d, all, all, all)
			want := block(1)
			if all {
				want = block(2)
			}
			holds(t, d, 0, want)
			holds(t, d, 1, api.Block{})
		}
	}
}

// P10.4: armed anew it is the new number that counts, whether it is more or less; below 0 the disk is not armed any more.
func TestArmAnew(t *testing.T) {
	for _, first := range []int{0, 1, 5, math.MaxInt} {
		for _, second := range []int{0, 1, 2, 9} {
			d := made(t, 1)
			arm(t, d, first)
			if first > 0 {
				write(t, d, 0, block(1))
			}
			arm(t, d, second)
			for k := range second {
				write(t, d, 0, block(k+2))
			}
			dead(t, d, false)
			answers(t, "Write behind the last", d.Write(0, block(99)), api.ErrDead)
			dead(t, d, true)
		}
		for _, off := range []int{-1, -2, -100, math.MinInt32, math.MinInt, math.MinInt + 1} {
			d := made(t, 1)
			arm(t, d, first)
			arm(t, d, off)
			for k := range 200 {
				write(t, d, 0, block(k))
				sync(t, d)
			}
			dead(t, d, false)
			ops(t, d, 400)
			arm(t, d, 1)
			sync(t, d)
			answers(t, "Sync behind the last", d.Sync(), api.ErrDead)
		}
	}
}

// P10.4: armed with great numbers a disk does what it is asked.
func TestArmFar(t *testing.T) {
	for _, n := range []int{1000, math.MaxInt32, 1 << 32, math.MaxInt - 1, math.MaxInt} {
		d := made(t, 1)
		arm(t, d, n)
		for k := range 500 {
			write(t, d, 0, block(k))
			sync(t, d)
		}
		dead(t, d, false)
	}
}

// P10.2: a wrong sector is told ahead of the arming, and is no write; neither reads nor what only tells are counted.
func TestWrongSectorIsNoWrite(t *testing.T) {
	for n := range 4 {
		d := made(t, 4)
		arm(t, d, n)
		tell := func() {
			t.Helper()
			for _, i := range nowhere(4) {
				answers(t, "Write", d.Write(i, block(1)), api.ErrArg)
				unread(t, d, i, api.ErrArg)
			}
			d.Pending()
			d.Len()
			d.Copy()
			dead(t, d, false)
			for i := range 4 {
				if _, err := d.Read(i); err != api.OK {
					t.Errorf("Read(%d): %d", i, err)
				}
			}
		}
		tell()
		for k := range n {
			write(t, d, k, block(k))
			ops(t, d, k+1)
			tell()
		}
		answers(t, "Write behind the last", d.Write(0, block(1)), api.ErrDead)
		dead(t, d, true)
	}
}

// P10.4: of pending writes those live on at whose places keep has true, in their order: all choices of five writes of two sectors, with lists of all lengths.
func TestCrashChoices(t *testing.T) {
	at := []int{0, 1, 0, 0, 1}
	for choice := range 1 << 8 {
		for length := range 9 {
			for _, power := range []bool{true, false} {
				d := made(t, 3)
				for i := range 3 {
					write(t, d, i, block(50+i))
				}
				sync(t, d)
				want := []api.Block{block(50), block(51), block(52)}
				keep := make([]bool, length)
				for k := range keep {
					keep[k] = choice>>k&1 == 1
				}
				for k, i := range at {
					write(t, d, i, block(k+1))
					if k < length && keep[k] {
						want[i] = block(k + 1)
					}
				}
				if !power {
					arm(t, d, 0)
					answers(t, "Write behind the last", d.Write(2, block(99)), api.ErrDead)
				}
				crash(t, d, keep...)
				pending(t, d)
				dead(t, d, false)
				ops(t, d, 9)
				for i := range want {
					holds(t, d, i, want[i])
				}
				crash(t, d)
				for i := range want {
					holds(t, d, i, want[i])
				}
			}
		}
	}
}

// P10.4: behind Crash a disk is not armed, whether its power went or not.
func TestCrashDisarms(t *testing.T) {
	for _, n := range []int{0, 1, 2, 30} {
		for _, power := range []bool{true, false} {
			d := made(t, 2)
			arm(t, d, n)
			for range n {
				if !power {
					sync(t, d)
				}
			}
			if !power {
				answers(t, "Sync behind the last", d.Sync(), api.ErrDead)
			}
			dead(t, d, !power)
			crash(t, d, true)
			dead(t, d, false)
			for k := range 100 {
				write(t, d, k%2, block(k))
				sync(t, d)
			}
			dead(t, d, false)
		}
	}
}

// P10.4: a crash of a disk with nothing pending changes nothing, whatever is kept.
func TestCrashOfNothing(t *testing.T) {
	d := made(t, 2)
	for _, keep := range [][]bool{nil, {}, {true}, {false, true, true}} {
		answers(t, "Crash", d.Crash(keep), api.OK)
		holds(t, d, 0, api.Block{})
		holds(t, d, 1, api.Block{})
		pending(t, d)
		ops(t, d, 0)
		dead(t, d, false)
	}
}

// P10.5: a copy has the same sectors, pending writes, power, arming and Ops; and each of both goes on by itself.
func TestCopyPending(t *testing.T) {
	d := made(t, 3)
	write(t, d, 0, block(1))
	sync(t, d)
	write(t, d, 1, block(2))
	write(t, d, 0, block(3))
	c := d.Copy()
	if c == nil || c == d || c.Len() != 3 {
		t.Fatalf("Copy: %v", c)
	}
	for _, x := range []*disk.Disk{c, d} {
		pending(t, x, 1, 0)
		ops(t, x, 4)
		dead(t, x, false)
		holds(t, x, 0, block(3))
		holds(t, x, 1, block(2))
	}
	write(t, d, 2, block(4))
	write(t, c, 2, block(5))
	write(t, c, 2, block(6))
	pending(t, d, 1, 0, 2)
	pending(t, c, 1, 0, 2, 2)
	holds(t, d, 2, block(4))
	holds(t, c, 2, block(6))
	ops(t, d, 5)
	ops(t, c, 6)
	crash(t, d, true, false, true)
	for i, want := range []api.Block{block(1), block(2), block(4)} {
		holds(t, d, i, want)
	}
	pending(t, c, 1, 0, 2, 2)
	for i, want := range []api.Block{block(3), block(2), block(6)} {
		holds(t, c, i, want)
	}
	sync(t, c)
	write(t, d, 0, block(8))
	sync(t, d)
	holds(t, c, 0, block(3))
	crash(t, c)
	holds(t, c, 0, block(3))
	holds(t, d, 0, block(8))
}

// P10.5: two copies of one disk do not write into one another's pending writes, and copies of copies neither.
func TestCopiesOfOne(t *testing.T) {
	d := made(t, 4)
	for k := range 5 {
		write(t, d, 0, block(k))
		one, other := d.Copy(), d.Copy().Copy()
		write(t, one, 1, block(101))
		write(t, other, 2, block(102))
		write(t, d, 3, block(103))
		for at, x := range map[int]*disk.Disk{1: one, 2: other, 3: d} {
			list := x.Pending()
			if len(list) == 0 || list[len(list)-1] != at {
				t.Errorf("Pending: %v, not %d last", list, at)
			}
			keep := make([]bool, len(list))
			keep[len(keep)-1] = true
			y := x.Copy()
			crash(t, y, keep...)
			holds(t, y, at, block(100+at))
		}
	}
}

// P10.5: a copy of an armed disk is armed as it is; what either does is not counted for the other, nor is its arming changed.
func TestCopyArmed(t *testing.T) {
	d := made(t, 2)
	arm(t, d, 3)
	write(t, d, 0, block(1))
	c := d.Copy()
	write(t, c, 1, block(2))
	write(t, c, 1, block(3))
	answers(t, "Write of the copy", c.Write(1, block(4)), api.ErrDead)
	dead(t, c, true)
	dead(t, d, false)
	sync(t, d)
	e := d.Copy()
	arm(t, e, -1)
	sync(t, d)
	answers(t, "Sync behind the last", d.Sync(), api.ErrDead)
	for range 10 {
		sync(t, e)
	}
	dead(t, e, false)
	ops(t, e, 12)
	pending(t, c, 0, 1, 1)
	pending(t, d)
}

// P10.5: a copy of a disk without power has none; the crash of either leaves the other as it is.
func TestCopyWithoutPower(t *testing.T) {
	d := withoutPower(t)
	c := d.Copy()
	dead(t, c, true)
	pending(t, c, 1, 1, 2)
	ops(t, c, 5)
	unread(t, c, 0, api.ErrDead)
	answers(t, "Sync of the copy", c.Sync(), api.ErrDead)
	crash(t, c, true)
	dead(t, c, false)
	dead(t, d, true)
	pending(t, d, 1, 1, 2)
	unread(t, d, 0, api.ErrDead)
	holds(t, c, 1, block(2))
	e := d.Copy()
	crash(t, d, false, true, true)
	dead(t, e, true)
	holds(t, d, 1, block(3))
	holds(t, d, 2, block(4))
	holds(t, c, 2, api.Block{})
	crash(t, e)
	holds(t, e, 1, api.Block{})
	holds(t, e, 0, block(1))
}
