package extent_test

import (
	"bytes"
	"slices"
	"testing"

	"hollowtree/api"
	"hollowtree/disk"
	"hollowtree/extent"
)

// takes is what a disk has to hold behind a snapshot of some turn is taken.
func takes(blocks []api.Block, turn uint64, snapshot []byte) []api.Block {
	out := slices.Clone(blocks)
	place := int(turn % 2)
	at := first(len(out), place)
	for piece := range slices.Chunk(snapshot, api.Sector) {
		out[at] = api.Block{}
		copy(out[at][:], piece)
		at++
	}
	out[turn%2] = super(byte(place), turn, snapshot)
	return out
}

// P11.2: snapshots of all kinds of lengths, one behind the other: which bytes go where, by how many writes and syncs, and what is told then.
func TestTake(t *testing.T) {
	for _, n := range []int{64, 65, 66, 67, 512} {
		most := 64 * half(n)
		lengths := []int{0, 1, 63, 64, 65, most, most - 1, 0, 0, most, most, 1, 127, 128, 129, most - 63, most - 64}
		d := used(t, n)
		s := format(t, d)
		for k, length := range lengths {
			b, turn := text(k, length), uint64(k+1)
			want, before := takes(image(t, d), turn, b), d.Ops()
			take(t, s, b)
			holds(t, d, want)
			pending(t, d)
			ops(t, d, before+(length+63)/64+3)
			tells(t, s, turn, b)
			tells(t, opened(t, d), turn, b)
			room(t, s, n)
		}
	}
}

// P11.2, R8: one byte too many, and more: nothing changes.
func TestTakeTooLong(t *testing.T) {
	for _, n := range []int{64, 67, 512} {
		d := made(t, n)
		s := format(t, d)
		take(t, s, text(1, 100))
		want, before := image(t, d), d.Ops()
		for _, more := range []int{1, 2, 63, 64, 65, 1 << 16} {
			answers(t, "Take", s.Take(make([]byte, s.Room()+more)), api.ErrLong)
		}
		holds(t, d, want)
		pending(t, d)
		ops(t, d, before)
		tells(t, s, 1, text(1, 100))
		arm(t, d, 0)
		answers(t, "Take on an armed disk", s.Take(make([]byte, s.Room()+1)), api.ErrLong)
		if d.Dead() {
			t.Errorf("a snapshot that is too long was begun")
		}
	}
}

// P11.2: Take on a disk that is armed with too few: ErrDead; the writes and syncs ahead are done, in their order; the Store's snapshot and Turn are as they were.
func TestTakeArmed(t *testing.T) {
	for _, length := range []int{0, 1, 64, 65, 200, 960} {
		for turns := range 3 {
			sectors := (length + 63) / 64
			for n := range sectors + 4 {
				d := made(t, 64)
				s := format(t, d)
				old := []byte(nil)
				for k := range turns {
					old = text(k, 300)
					take(t, s, old)
				}
				next := turns + 1
				was, before := image(t, d), d.Ops()
				want := takes(was, uint64(next), text(9, length))
				arm(t, d, n)
				if n == sectors+3 {
					take(t, s, text(9, length))
					tells(t, s, uint64(next), text(9, length))
					continue
				}
				answers(t, "Take", s.Take(text(9, length)), api.ErrDead)
				turn(t, s, uint64(turns))
				unread(t, s, api.ErrDead)
				ops(t, d, before+n)
				armedSoFar(t, d, n, sectors, next%2)
				kept := d.Copy()
				crash(t, kept, slices.Repeat([]bool{true}, 20)...)
				begun(t, kept, was, want, n, sectors, next%2)
				answers(t, "Take once more", s.Take(text(9, length)), api.ErrDead)
				turn(t, s, uint64(turns))
				crash(t, d)
				tells(t, s, uint64(turns), old)
				tells(t, opened(t, d), uint64(turns), old)
			}
		}
	}
}

// armedSoFar holds the pending writes of a Take that was cut behind n writes and syncs against the chapter's order.
func armedSoFar(t *testing.T, d *disk.Disk, n, sectors, place int) {
	t.Helper()
	var want []int
	switch {
	case n <= sectors:
		for i := range n {
			want = append(want, first(64, place)+i)
		}
	case n == sectors+2:
		want = append(want, place)
	}
	pending(t, d, want...)
}

// begun holds all that such a Take wrote against what a whole one writes.
func begun(t *testing.T, d *disk.Disk, was, want []api.Block, n, sectors, place int) {
	t.Helper()
	from := first(64, place)
	for i, got := range image(t, d) {
		expected := was[i]
		if i >= from && i < from+min(n, sectors) || i == place && n == sectors+2 {
			expected = want[i]
		}
		if got != expected {
			t.Errorf("armed with %d: sector %d: %x, not %x", n, i, got, expected)
		}
	}
}

// P11.2: the disk is armed with more than a Take needs: what is left is left.
func TestTakeOfArmed(t *testing.T) {
	d := made(t, 64)
	s := format(t, d)
	arm(t, d, 3+4+5)
	take(t, s, nil)
	take(t, s, text(1, 64))
	take(t, s, text(2, 128))
	tells(t, s, 3, text(2, 128))
	answers(t, "Take", s.Take(nil), api.ErrDead)
	turn(t, s, 3)
}

// R3: a list that is handed in is neither changed nor kept, nor the room behind its end; what is answered may be changed.
func TestHandedIn(t *testing.T) {
	for _, length := range []int{0, 1, 63, 64, 65, 100, 960} {
		d := made(t, 64)
		s := format(t, d)
		long := text(3, length+200)
		was := slices.Clone(long)
		take(t, s, long[:length])
		if !bytes.Equal(long, was) {
			t.Errorf("Take of %d bytes changed what was handed in", length)
		}
		for i := range long {
			long[i] ^= 0xff
		}
		tells(t, s, 1, was[:length])
		for range 2 {
			got, _ := s.Snapshot()
			got = got[:cap(got)]
			for i := range got {
				got[i] ^= 0xff
			}
			_ = append(got, 1, 2, 3)
		}
		tells(t, s, 1, was[:length])
		tells(t, opened(t, d), 1, was[:length])
	}
}

// P11.4: two Stores on one disk tell the same, whichever of them takes a snapshot, also where the other was opened long ahead.
func TestTwoStores(t *testing.T) {
	d := made(t, 65)
	stores := []*extent.Store{format(t, d), opened(t, d)}
	for k := range 12 {
		b := text(k, 70*k)
		take(t, stores[[]int{0, 0, 1, 0, 1, 1, 1, 2, 3, 0, 5, 1}[k]], b)
		for _, s := range stores {
			tells(t, s, uint64(k+1), b)
		}
		stores = append(stores, opened(t, d))
	}
	i := 0
	for _, s := range stores {
		answers(t, "Put", s.Put(i, block(i+1)), api.OK)
		for _, o := range stores {
			if b, err := o.Slot(i); b != block(i+1) || err != api.OK {
				t.Errorf("Slot(%d): %x %d", i, b, err)
			}
			if o.Disk() != d {
				t.Errorf("Disk: another one")
			}
			room(t, o, 65)
		}
		i++
	}
}

// P11.4: the same for a Store that is asked only behind the power went, and for ones that wait while another one takes twice, so that the place of what they knew is written over.
func TestTwoStoresLater(t *testing.T) {
	for takings := range 6 {
		d := made(t, 64)
		one := format(t, d)
		take(t, one, text(7, 90))
		waiting := opened(t, d)
		want := text(7, 90)
		for k := range takings {
			want = text(k, 200+k)
			take(t, one, want)
		}
		cut(t, d)
		turn(t, one, uint64(takings+1))
		turn(t, waiting, uint64(takings+1))
		unread(t, waiting, api.ErrDead)
		crash(t, d)
		tells(t, waiting, uint64(takings+1), want)
		take(t, waiting, text(8, 10))
		tells(t, one, uint64(takings+2), text(8, 10))
	}
}

// P11.1, P11.4: a disk is formatted while a Store is on it: that one tells what the new one tells.
func TestTwoStoresFormat(t *testing.T) {
	d := two(t)
	s := opened(t, d)
	f := format(t, d)
	tells(t, s, 0, nil)
	take(t, f, []byte{4})
	tells(t, s, 1, []byte{4})
}

// P11.2, P11.3: of Stores on two disks neither knows of the other; a copy of a disk goes on by itself.
func TestTwoDisks(t *testing.T) {
	d := two(t)
	c := d.Copy()
	s, o := opened(t, d), opened(t, c)
	take(t, s, []byte{1})
	answers(t, "Put", s.Put(0, block(3)), api.OK)
	tells(t, s, 3, []byte{1})
	tells(t, o, 2, text(2, 70))
	if b, err := o.Slot(0); b != (api.Block{}) || err != api.OK {
		t.Errorf("Slot(0) of the copy: %x %d", b, err)
	}
	if s.Disk() != d || o.Disk() != c {
		t.Errorf("Disk: the other one")
	}
}
