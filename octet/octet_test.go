package octet_test

import (
	"bytes"
	"math"
	"math/rand"
	"testing"

	"hollowtree/api"
	"hollowtree/octet"
)

// spare is a list of the given bytes with room behind its end, and the whole of that room, which no call may touch.
func spare(b ...byte) (list, whole []byte) {
	whole = append(bytes.Clone(b), bytes.Repeat([]byte{0xee}, 16)...)
	return whole[:len(b)], whole
}

func same(t *testing.T, what string, got, want []byte) {
	t.Helper()
	if !bytes.Equal(got, want) {
		t.Errorf("%s: % x, not % x", what, got, want)
	}
}

// some are lists of many lengths, the same ones at each run.
func some() [][]byte {
	r := rand.New(rand.NewSource(1))
	out := [][]byte{nil, {}}
	for n := 1; n < 40; n++ {
		b := make([]byte, n)
		r.Read(b)
		out = append(out, b)
	}
	return out
}

// P1.1: ordinary numbers, the least and the greatest, every byte in its place.
func TestPut(t *testing.T) {
	same(t, "Put16 behind 07", octet.Put16([]byte{7}, 258), []byte{7, 2, 1})
	same(t, "Put16 of the least", octet.Put16(nil, 0), []byte{0, 0})
	same(t, "Put16 of the greatest", octet.Put16(nil, math.MaxUint16), []byte{255, 255})
	same(t, "Put16 behind none", octet.Put16([]byte{}, 0xb1a0), []byte{0xa0, 0xb1})
	same(t, "Put32", octet.Put32(nil, 1), []byte{1, 0, 0, 0})
	same(t, "Put32 of each byte", octet.Put32([]byte{9, 8}, 0x84736251), []byte{9, 8, 0x51, 0x62, 0x73, 0x84})
	same(t, "Put32 of the greatest", octet.Put32(nil, math.MaxUint32), []byte{255, 255, 255, 255})
	same(t, "Put64", octet.Put64(nil, 256), []byte{0, 1, 0, 0, 0, 0, 0, 0})
	same(t, "Put64 of each byte", octet.Put64([]byte{0}, 0x8877665544332211), []byte{0, 0x11, 0x22, 0x33, 0x44, 0x55, 0x66, 0x77, 0x88})
	same(t, "Put64 of the greatest", octet.Put64(nil, math.MaxUint64), bytes.Repeat([]byte{255}, 8))
}

// P1.1: bytes that are lacking are noughts, those behind the eighth do not count.
func TestGet64(t *testing.T) {
	full := []byte{0x11, 0x22, 0x33, 0x44, 0x55, 0x66, 0x77, 0x88, 0x99, 0xaa}
	want := []uint64{0, 0x11, 0x2211, 0x332211, 0x44332211, 0x5544332211, 0x665544332211, 0x77665544332211, 0x8877665544332211, 0x8877665544332211, 0x8877665544332211}
	for n, x := range want {
		if got := octet.Get64(full[:n]); got != x {
			t.Errorf("Get64 of %d bytes: %x, not %x", n, got, x)
		}
	}
	if got := octet.Get64(nil); got != 0 {
		t.Errorf("Get64 of none: %x", got)
	}
	if got := octet.Get64([]byte{2, 1}); got != 258 {
		t.Errorf("Get64 of 02 01: %d", got)
	}
}

// P1.2: as many bytes, and the same ones; each byte and each bit counts.
func TestEqual(t *testing.T) {
	tests := []struct {
		a, b []byte
		want bool
	}{
		{[]byte{1, 2}, []byte{1, 2}, true},
		{nil, nil, true},
		{nil, []byte{}, true},
		{[]byte{1}, []byte{1, 0}, false},
		{[]byte{1, 0}, []byte{1}, false},
		{nil, []byte{0}, false},
		{[]byte{0}, nil, false},
		{[]byte{1, 2}, []byte{2, 1}, false},
		{[]byte{0x0f, 0xf0}, []byte{0xf0, 0x0f}, false},
	}
	for _, x := range tests {
		if octet.Equal(x.a, x.b) != x.want {
			t.Errorf("Equal(% x, % x) is not %v", x.a, x.b, x.want)
		}
	}
	a := some()[30]
	for i := range a {
		for bit := range 8 {
			b := bytes.Clone(a)
			b[i] ^= 1 << bit
			if octet.Equal(a, b) {
				t.Errorf("Equal with bit %d of byte %d turned", bit, i)
			}
		}
	}
}

// P1.2: of none true; a single bit anywhere makes it false, two that cancel out too.
func TestZero(t *testing.T) {
	if !octet.Zero(nil) || !octet.Zero([]byte{}) || !octet.Zero([]byte{0, 0}) || !octet.Zero(make([]byte, 100)) {
		t.Error("Zero of noughts, or of none, is false")
	}
	if octet.Zero([]byte{5, 5}) || octet.Zero([]byte{255, 1}) {
		t.Error("Zero of two bytes that make nought together is true")
	}
	for i := range 20 {
		for bit := range 8 {
			b := make([]byte, 20)
			b[i] = 1 << bit
			if octet.Zero(b) {
				t.Errorf("Zero with bit %d of byte %d", bit, i)
			}
		}
	}
}

// P1.2: as long as the shorter one, on whichever side that is.
func TestXor(t *testing.T) {
	same(t, "Xor, the second shorter", octet.Xor([]byte{1, 2}, []byte{3}), []byte{2})
	same(t, "Xor, the first shorter", octet.Xor([]byte{3}, []byte{1, 2}), []byte{2})
	same(t, "Xor, both as long", octet.Xor([]byte{0x0f, 0xff, 0}, []byte{0xf0, 0xff, 7}), []byte{0xff, 0, 7})
	same(t, "Xor with none", octet.Xor([]byte{1, 2}, nil), nil)
	same(t, "Xor of none", octet.Xor(nil, []byte{1, 2}), nil)
	same(t, "Xor of none with none", octet.Xor(nil, nil), nil)
}

// P1.4: Get64 of Put64; Equal both ways; Xor twice.
func TestFollows(t *testing.T) {
	for bit := range 64 {
		for _, x := range []uint64{1 << bit, 1<<bit - 1, ^uint64(1 << bit)} {
			if got := octet.Get64(octet.Put64(nil, x)); got != x {
				t.Errorf("Get64 of Put64 of %x: %x", x, got)
			}
		}
	}
	for _, a := range some() {
		if !octet.Equal(a, bytes.Clone(a)) {
			t.Errorf("Equal of % x with itself is false", a)
		}
		for _, b := range some() {
			if octet.Equal(a, b) != octet.Equal(b, a) {
				t.Errorf("Equal(% x, % x) is not told the same both ways", a, b)
			}
			n := min(len(a), len(b))
			same(t, "Xor twice", octet.Xor(octet.Xor(a, b), b), a[:n])
			if !octet.Zero(octet.Xor(a, a)) {
				t.Errorf("Xor of % x with itself is not noughts", a)
			}
		}
	}
}

// R3: neither the lists nor the room behind their ends are changed.
func TestUnchanged(t *testing.T) {
	a, roomA := spare(1, 2, 3)
	b, roomB := spare(4, 5)
	wantA, wantB := bytes.Clone(roomA), bytes.Clone(roomB)
	octet.Put16(a, math.MaxUint16)
	octet.Put32(a, math.MaxUint32)
	octet.Put64(a, math.MaxUint64)
	octet.Get64(a)
	octet.Equal(a, b)
	octet.Zero(a)
	octet.Xor(a, b)
	octet.Xor(b, a)
	r := octet.Read(a)
	r.U16()
	r.Raw(1)
	r.Key()
	same(t, "the first list and its room", roomA, wantA)
	same(t, "the second list and its room", roomB, wantB)
}

// R3: what is answered is new memory: what becomes of it is not seen in what was handed in, nor the other way round.
func TestNew(t *testing.T) {
	calls := map[string]func(b []byte) []byte{
		"Put16": func(b []byte) []byte { return octet.Put16(b, 1) },
		"Put32": func(b []byte) []byte { return octet.Put32(b, 1) },
		"Put64": func(b []byte) []byte { return octet.Put64(b, 1) },
		"Xor":   func(b []byte) []byte { return octet.Xor(b, []byte{0, 0, 0, 0}) },
		"Xor, the other way": func(b []byte) []byte {
			return octet.Xor([]byte{0, 0, 0, 0}, b)
		},
	}
	for name, call := range calls {
		b, whole := spare(1, 2, 3)
		want := bytes.Clone(whole)
		first, second := call(b), call(b)
		kept := bytes.Clone(second)
		for i := range first[:cap(first)] {
			first[:cap(first)][i] = 0x77
		}
		same(t, name+": what was handed in", whole, want)
		same(t, name+": another answer", second, kept)
		for i := range whole {
			whole[i] = 0x66
		}
		same(t, name+": an answer behind a change of what was handed in", second, kept)
	}
}

// R2, R4: of a nil Reader, reads answer zero, Left 0, Err ErrNil.
func TestNilReader(t *testing.T) {
	var r *octet.Reader
	if r.U16() != 0 || r.U32() != 0 || r.U64() != 0 || r.Key() != (api.Key{}) {
		t.Error("a nil Reader answers a number or a key")
	}
	for _, n := range []int{math.MinInt, -1, 0, 1, math.MaxInt} {
		if len(r.Raw(n)) != 0 {
			t.Errorf("Raw(%d) of a nil Reader answers bytes", n)
		}
	}
	if r.Left() != 0 || r.Err() != api.ErrNil {
		t.Errorf("a nil Reader: %d left, error %d", r.Left(), r.Err())
	}
}
