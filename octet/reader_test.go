package octet_test

import (
	"bytes"
	"math"
	"testing"

	"hollowtree/api"
	"hollowtree/octet"
)

// reads are all that a Reader can be asked for, by how many bytes each takes; each tells whether what it answered is zero.
func reads() map[string]struct {
	size int
	zero func(r *octet.Reader) bool
} {
	type read = struct {
		size int
		zero func(r *octet.Reader) bool
	}
	return map[string]read{
		"U16":    {2, func(r *octet.Reader) bool { return r.U16() == 0 }},
		"U32":    {4, func(r *octet.Reader) bool { return r.U32() == 0 }},
		"U64":    {8, func(r *octet.Reader) bool { return r.U64() == 0 }},
		"Raw(5)": {5, func(r *octet.Reader) bool { return len(r.Raw(5)) == 0 }},
		"Key":    {32, func(r *octet.Reader) bool { return r.Key() == api.Key{} }},
	}
}

func stands(t *testing.T, what string, r *octet.Reader, left int, err api.Errno) {
	t.Helper()
	if r.Left() != left || r.Err() != err {
		t.Errorf("%s: %d left and error %d, not %d and %d", what, r.Left(), r.Err(), left, err)
	}
}

// rising are the bytes 1 to n.
func rising(n int) []byte {
	b := make([]byte, n)
	for i := range b {
		b[i] = byte(i + 1)
	}
	return b
}

// P1.3: each read answers what stands where the Reader is, and moves it.
func TestReads(t *testing.T) {
	r := octet.Read(rising(50))
	stands(t, "at first", r, 50, api.OK)
	if x := r.U16(); x != 0x0201 {
		t.Errorf("U16: %x", x)
	}
	stands(t, "behind U16", r, 48, api.OK)
	if x := r.U32(); x != 0x06050403 {
		t.Errorf("U32: %x", x)
	}
	stands(t, "behind U32", r, 44, api.OK)
	if x := r.U64(); x != 0x0e0d0c0b0a090807 {
		t.Errorf("U64: %x", x)
	}
	stands(t, "behind U64", r, 36, api.OK)
	same(t, "Raw(3)", r.Raw(3), []byte{15, 16, 17})
	stands(t, "behind Raw", r, 33, api.OK)
	k := r.Key()
	same(t, "Key", k[:], rising(50)[17:49])
	stands(t, "behind Key", r, 1, api.OK)
	same(t, "Raw(1)", r.Raw(1), []byte{50})
	stands(t, "at the end", r, 0, api.OK)
}

// P1.3: the chapter's example of a Reader.
func TestExample(t *testing.T) {
	r := octet.Read([]byte{2, 1, 5})
	if x := r.U16(); x != 258 {
		t.Errorf("U16: %d", x)
	}
	stands(t, "behind the first", r, 1, api.OK)
	if x := r.U16(); x != 0 {
		t.Errorf("U16 of one byte: %d", x)
	}
	stands(t, "behind the second", r, 1, api.ErrShort)
	if len(r.Raw(1)) != 0 || r.Key() != (api.Key{}) {
		t.Error("reads of a Reader with an error answer something")
	}
	stands(t, "at last", r, 1, api.ErrShort)
}

// P1.3: with just as many bytes as are asked for a read succeeds; with fewer it is ErrShort, answers zero and moves nothing.
func TestShort(t *testing.T) {
	for name, read := range reads() {
		r := octet.Read(rising(read.size))
		if read.zero(r) {
			t.Errorf("%s of just as many bytes is zero", name)
		}
		stands(t, name+" of just as many", r, 0, api.OK)
		for n := range read.size {
			r := octet.Read(rising(n))
			if !read.zero(r) {
				t.Errorf("%s of %d bytes is not zero", name, n)
			}
			stands(t, name+" of too few", r, n, api.ErrShort)
		}
	}
	r := octet.Read(rising(3))
	r.Raw(1)
	if len(r.Raw(math.MaxInt)) != 0 {
		t.Error("Raw of the greatest number answers bytes")
	}
	stands(t, "Raw of the greatest number", r, 2, api.ErrShort)
}

// P1.3: Raw of none is no fault, not even at the end; of fewer than none it is ErrArg, whatever is left.
func TestRawEdges(t *testing.T) {
	for _, b := range some() {
		r := octet.Read(b)
		if len(r.Raw(0)) != 0 {
			t.Error("Raw(0) answers bytes")
		}
		stands(t, "Raw(0)", r, len(b), api.OK)
		same(t, "Raw of all", r.Raw(len(b)), b)
		stands(t, "Raw of all", r, 0, api.OK)
		r.Raw(0)
		stands(t, "Raw(0) at the end", r, 0, api.OK)
		for _, n := range []int{-1, -2, math.MinInt} {
			r := octet.Read(b)
			if len(r.Raw(n)) != 0 {
				t.Errorf("Raw(%d) answers bytes", n)
			}
			stands(t, "Raw of fewer than none", r, len(b), api.ErrArg)
		}
	}
}

// P1.3: while there is an error no read does anything, and the first reason stays.
func TestFirstReason(t *testing.T) {
	short := func(r *octet.Reader) { r.Raw(101) }
	below := func(r *octet.Reader) { r.Raw(-1) }
	none := func(r *octet.Reader) { r.Raw(0) }
	faults := []struct {
		first func(r *octet.Reader)
		want  api.Errno
	}{{short, api.ErrShort}, {below, api.ErrArg}}
	for _, f := range faults {
		r := octet.Read(rising(100))
		r.U16()
		f.first(r)
		for _, later := range []func(r *octet.Reader){short, below, none} {
			later(r)
			stands(t, "behind a later reason", r, 98, f.want)
		}
		for name, read := range reads() {
			if !read.zero(r) {
				t.Errorf("%s of a Reader with an error is not zero", name)
			}
			stands(t, name+" of a Reader with an error", r, 98, f.want)
		}
	}
}

// P1.3: a Reader of no bytes is one all the same.
func TestReadNone(t *testing.T) {
	for _, b := range [][]byte{nil, {}} {
		r := octet.Read(b)
		if r == nil {
			t.Fatal("Read of none answers no Reader")
		}
		stands(t, "Read of none", r, 0, api.OK)
		r.U16()
		stands(t, "U16 of none", r, 0, api.ErrShort)
	}
}

// P1.3, R3: the bytes are those that the list had then; the room behind its end is not among them.
func TestReadKeeps(t *testing.T) {
	b, whole := spare(1, 2, 3, 4)
	r := octet.Read(b)
	for i := range whole {
		whole[i] = 0x66
	}
	stands(t, "behind a change", r, 4, api.OK)
	if x := r.U16(); x != 0x0201 {
		t.Errorf("U16 behind a change of what was handed in: %x", x)
	}
	r.Raw(3)
	stands(t, "more than the list has, less than its room", r, 2, api.ErrShort)
}

// R3: what Raw answers is new memory; Readers of one list do not touch each other.
func TestRawIsNew(t *testing.T) {
	b := rising(9)
	r, other := octet.Read(b), octet.Read(b)
	raw := r.Raw(3)
	for i := range raw[:cap(raw)] {
		raw[:cap(raw)][i] = 0x77
	}
	same(t, "the list", b, rising(9))
	same(t, "what comes behind", r.Raw(3), []byte{4, 5, 6})
	same(t, "another Reader", other.Raw(9), rising(9))
	stands(t, "the first Reader", r, 3, api.OK)
}

// P1.4: what was put is read as the same, in its order.
func TestPutIsRead(t *testing.T) {
	key := api.Key(bytes.Repeat([]byte{0xa5}, 32))
	for bit := range 64 {
		x := uint64(0x8040201008040201)<<bit | uint64(bit)
		b := octet.Put16(nil, uint16(x))
		b = octet.Put64(b, x)
		b = append(b, key[:]...)
		b = octet.Put32(b, uint32(x))
		b = octet.Put16(b, ^uint16(x))
		b = octet.Put32(b, ^uint32(x))
		b = octet.Put64(b, ^x)
		r := octet.Read(b)
		if r.U16() != uint16(x) || r.U64() != x || r.Key() != key || r.U32() != uint32(x) {
			t.Errorf("what was put of %x is not read as the same", x)
		}
		if r.U16() != ^uint16(x) || r.U32() != ^uint32(x) || r.U64() != ^x {
			t.Errorf("what was put of %x is not read as the same, turned", x)
		}
		stands(t, "behind all", r, 0, api.OK)
	}
}
