package convo_test

import (
	"bytes"
	"fmt"
	"math/rand"
	"testing"

	"hollowtree/api"
	"hollowtree/convo"
)

// getOf reads the bytes by the chapter's words: each field at its place, and noughts where nothing is.
func getOf(b []byte) (api.Convo, bool) {
	low := func(at int) uint32 {
		return uint32(b[at]) | uint32(b[at+1])<<8 | uint32(b[at+2])<<16 | uint32(b[at+3])<<24
	}
	c := api.Convo{Next: low(0), Turn: int(b[5]), Delivered: low(426)}
	if b[4] > 4 || b[430] > 3 || uint32(b[4]) > c.Next {
		return api.Convo{}, false
	}
	for i := range int(b[4]) {
		c.Out = append(c.Out, api.Out{Seq: c.Next - uint32(b[4]) + uint32(i), Body: body(b[6+105*i:])})
	}
	rest := bytes.Clone(b[6+105*int(b[4]) : 426])
	for i := range int(b[430]) {
		n := int(b[435+53*i])
		if n > 48 {
			return api.Convo{}, false
		}
		c.Held = append(c.Held, api.In{Seq: low(431 + 53*i), Text: string(b[436+53*i : 436+53*i+n])})
		rest = append(rest, b[436+53*i+n:436+53*i+48]...)
	}
	rest = append(rest, b[431+53*int(b[430]):]...)
	return c, mayBe(c) && bytes.Count(rest, []byte{0}) == len(rest)
}

// gets holds Get against the words.
func gets(t *testing.T, what string, b []byte) {
	t.Helper()
	c, err := convo.Get(b)
	want, right := getOf(b)
	switch {
	case right && (err != api.OK || !alike(c, want)):
		t.Errorf("%s: Get: %v, %d; not %v", what, brief(c), err, brief(want))
	case !right && (err != api.ErrConvo || !nothing(c)):
		t.Errorf("%s: Get: %v, %d", what, brief(c), err)
	}
}

// refused looks for ErrConvo.
func refused(t *testing.T, what string, b []byte) {
	t.Helper()
	if c, err := convo.Get(b); err != api.ErrConvo || !nothing(c) {
		t.Errorf("%s: Get: %v, %d", what, brief(c), err)
	}
}

// with are the bytes, some of which are others from a place on.
func with(b []byte, at int, other ...byte) []byte {
	b = bytes.Clone(b)
	copy(b[at:], other)
	return b
}

// P18.5: byte for byte, written out.
func TestPut(t *testing.T) {
	c := api.Convo{
		Next:      0x01020304,
		Out:       []api.Out{{Seq: 0x01020302, Body: body{0: 0xa0, 104: 0xa1}}, {Seq: 0x01020303, Body: body{0: 0xb0, 104: 0xb1}}},
		Turn:      1,
		Delivered: 0x05060708,
		Held:      []api.In{{Seq: 0x05060709, Text: "hi"}, {Seq: 0x0506070b, Text: "\x00\xff\x00"}},
	}
	var want []byte
	add := func(noughts int, b ...byte) { want = append(append(want, make([]byte, noughts)...), b...) }
	add(0, 4, 3, 2, 1, 2, 1, 0xa0)
	add(103, 0xa1, 0xb0)
	add(103, 0xb1)
	add(210, 8, 7, 6, 5, 2, 9, 7, 6, 5, 2, 'h', 'i')
	add(46, 0x0b, 7, 6, 5, 3, 0, 0xff, 0)
	add(45)
	add(53)
	b, err := convo.Put(c)
	if len(want) != 590 || err != api.OK || !bytes.Equal(b, want) {
		t.Errorf("Put: %x, %d; not %x", b, err, want)
	}
	if got, err := convo.Get(want); err != api.OK || !alike(got, c) {
		t.Errorf("Get: %v, %d", brief(got), err)
	}
}

// P18.5: of none, some and all that can be there; and Get of it.
func TestPutSome(t *testing.T) {
	look := func(c api.Convo) {
		want := bytesOf(c)
		b, err := convo.Put(c)
		if err != api.OK || !bytes.Equal(b, want) {
			t.Errorf("%v: Put: %x, %d; not %x", brief(c), b, err, want)
		}
		if got, err := convo.Get(want); err != api.OK || !alike(got, c) || !convo.Same(got, c) {
			t.Errorf("%v: Get: %v, %d", brief(c), brief(got), err)
		}
	}
	for _, c := range rights() {
		look(c)
	}
	some([]uint32{0, 1, 2, 3, 4, 5, 1 << 24, bound - 3, bound - 1, bound}, look)
	d := rand.New(rand.NewSource(3))
	for range 2000 {
		look(drawn(d))
	}
}

// P18.5: what may not be has no bytes.
func TestPutWrong(t *testing.T) {
	for _, w := range wrongs() {
		if b, err := convo.Put(w.c); err != api.ErrConvo || b != nil {
			t.Errorf("%s: Put: %x, %d", w.what, b, err)
		}
	}
}

// P18.5: any other count of bytes is ErrSize, whatever they are.
func TestGetSizes(t *testing.T) {
	full := bytesOf(made(9, 4, 3, 5, 6, 7, 8))
	for n := range 1300 {
		for _, b := range [][]byte{make([]byte, n), bytes.Repeat([]byte{0xff}, n), append(bytes.Clone(full), make([]byte, 1300)...)[:n]} {
			c, err := convo.Get(b)
			if n != 590 && (err != api.ErrSize || !nothing(c)) {
				t.Errorf("%d bytes: %v, %d", n, brief(c), err)
			}
		}
	}
	if c, err := convo.Get(nil); err != api.ErrSize || !nothing(c) {
		t.Errorf("none: %v, %d", brief(c), err)
	}
}

// P18.5: counts, and Turn, up to their limits and above them.
func TestGetCounts(t *testing.T) {
	for out := range 5 {
		for held := range 4 {
			b := bytesOf(made(9, out, 0, 5, []uint32{6, 7, 8}[:held]...))
			for n := range 256 {
				what := fmt.Sprintf("%d in Out, %d held: %d", out, held, n)
				gets(t, what+" in Out", with(b, 4, byte(n)))
				gets(t, what+" as Turn", with(b, 5, byte(n)))
				gets(t, what+" held", with(b, 430, byte(n)))
				if n > 4 {
					refused(t, what+" in Out", with(b, 4, byte(n)))
				}
				if n >= max(out, 1) {
					refused(t, what+" as Turn", with(b, 5, byte(n)))
				}
				if n != held {
					refused(t, what+" held", with(b, 430, byte(n)))
				}
				for i := range held {
					gets(t, what+" bytes of text", with(b, 435+53*i, byte(n)))
					if n == 0 || n > 48 {
						refused(t, what+" bytes of text", with(b, 435+53*i, byte(n)))
					}
				}
			}
		}
	}
}

// P18.5: bytes that are no noughts where noughts have to be: behind the last of Out, behind the last of Held, behind a text.
func TestGetNoughts(t *testing.T) {
	for out := range 5 {
		for held := range 4 {
			c := made(9, out, 0, 5, []uint32{6, 7, 8}[:held]...)
			b := bytesOf(c)
			var places []int
			for at := 6 + 105*out; at < 426; at++ {
				places = append(places, at)
			}
			for i, in := range c.Held {
				for at := 436 + 53*i + len(in.Text); at < 436+53*i+48; at++ {
					places = append(places, at)
				}
			}
			for at := 431 + 53*held; at < 590; at++ {
				places = append(places, at)
			}
			for _, at := range places {
				for _, x := range []byte{1, 0x80, 0xff} {
					refused(t, fmt.Sprintf("%d in Out, %d held, at %d", out, held, at), with(b, at, x))
				}
			}
		}
	}
}

// P18.5: numbers at their limits, and beyond.
func TestGetNumbers(t *testing.T) {
	tests := []struct {
		what  string
		b     []byte
		right bool
	}{
		{"Next of 2^31", with(make([]byte, 590), 0, 0, 0, 0, 0x80), true},
		{"Next of 2^31 and one", with(make([]byte, 590), 0, 1, 0, 0, 0x80), false},
		{"Next of the greatest number", with(make([]byte, 590), 0, 255, 255, 255, 255), false},
		{"the same, and four in Out", with(make([]byte, 590), 0, 255, 255, 255, 255, 4), false},
		{"Next of 2^31 and four in Out", with(make([]byte, 590), 0, 0, 0, 0, 0x80, 4), true},
		{"Next of 2^31 and two, and four in Out", with(make([]byte, 590), 0, 2, 0, 0, 0x80, 4), false},
		{"Next of 0 and one in Out", with(make([]byte, 590), 4, 1), false},
		{"Next of 1 and one in Out", with(make([]byte, 590), 0, 1, 0, 0, 0, 1), true},
		{"Next of 3 and four in Out", with(make([]byte, 590), 0, 3, 0, 0, 0, 4), false},
		{"Next of 4 and four in Out", with(make([]byte, 590), 0, 4, 0, 0, 0, 4), true},
		{"Delivered of 2^31", with(make([]byte, 590), 426, 0, 0, 0, 0x80), true},
		{"Delivered of 2^31 and one", with(make([]byte, 590), 426, 1, 0, 0, 0x80), false},
		{"Delivered of the greatest number", with(make([]byte, 590), 426, 255, 255, 255, 255), false},
		{"one held, of Delivered", with(make([]byte, 590), 426, 5, 0, 0, 0, 1, 5, 0, 0, 0, 1, 'x'), false},
		{"one held, of Delivered and one", with(make([]byte, 590), 426, 5, 0, 0, 0, 1, 6, 0, 0, 0, 1, 'x'), true},
		{"one held, of Delivered and three", with(make([]byte, 590), 426, 5, 0, 0, 0, 1, 8, 0, 0, 0, 1, 'x'), true},
		{"one held, of Delivered and four", with(make([]byte, 590), 426, 5, 0, 0, 0, 1, 9, 0, 0, 0, 1, 'x'), false},
		{"one held, below Delivered", with(make([]byte, 590), 426, 5, 0, 0, 0, 1, 4, 0, 0, 0, 1, 'x'), false},
		{"one held, of 2^31 less one", with(make([]byte, 590), 426, 254, 255, 255, 0x7f, 1, 255, 255, 255, 0x7f, 1, 'x'), true},
		{"one held, of 2^31", with(make([]byte, 590), 426, 254, 255, 255, 0x7f, 1, 0, 0, 0, 0x80, 1, 'x'), false},
		{"one held, without a text", with(make([]byte, 590), 426, 5, 0, 0, 0, 1, 6), false},
		{"two held, of one number", with(bytesOf(made(0, 0, 0, 5, 6, 7)), 484, 6), false},
		{"two held, that sink", with(bytesOf(made(0, 0, 0, 5, 7, 8)), 484, 6), false},
		{"a number, and a text, where none is held", with(make([]byte, 590), 426, 5, 0, 0, 0, 0, 6, 0, 0, 0, 1, 'x'), false},
		{"a message, where none is in Out", with(make([]byte, 590), 0, 5, 0, 0, 0, 0, 0, 1), false},
	}
	for _, x := range tests {
		c, err := convo.Get(x.b)
		if x.right && err != api.OK || !x.right && (err != api.ErrConvo || !nothing(c)) {
			t.Errorf("%s: %v, %d", x.what, brief(c), err)
		}
		gets(t, x.what, x.b)
	}
}

// P18.5: each byte changed, of several conversations.
func TestGetEachByte(t *testing.T) {
	for _, c := range []api.Convo{{}, made(9, 2, 1, 5, 6, 8), made(4, 4, 3, bound-2, bound-1), made(bound, 3, 0, bound-4, bound-3, bound-2, bound-1), made(1, 1, 0, 0, 1, 2, 3)} {
		b := bytesOf(c)
		for at := range b {
			for _, x := range []byte{0, 1, 2, 3, 4, 5, 48, 49, 0x7f, 0x80, 0xff, b[at] + 1, b[at] - 1, b[at] ^ 0x40} {
				gets(t, fmt.Sprintf("%v, %d at %d", brief(c), x, at), with(b, at, x))
			}
		}
	}
}

// P18.5: drawn bytes, few of which are no noughts, and drawn bytes of conversations.
func TestGetDrawn(t *testing.T) {
	d := rand.New(rand.NewSource(4))
	for range 20000 {
		b := make([]byte, 590)
		if d.Intn(2) == 0 {
			b = bytesOf(drawn(d))
		}
		for range d.Intn(4) {
			at := []int{d.Intn(6), 426 + d.Intn(10), 484 + d.Intn(5), 537 + d.Intn(5), d.Intn(590)}[d.Intn(5)]
			b[at] = []byte{byte(d.Intn(6)), byte(d.Intn(256))}[d.Intn(2)]
		}
		gets(t, "drawn bytes", b)
	}
}

// same looks for what Same tells, both ways.
func same(t *testing.T, what string, a, b api.Convo, want bool) {
	t.Helper()
	if convo.Same(a, b) != want || convo.Same(b, a) != want {
		t.Errorf("%s: not %t", what, want)
	}
}

// P18.5: a nil list and an empty one are one; each field counts, and each field of an Out and of an In.
func TestSame(t *testing.T) {
	same(t, "zero ones", api.Convo{}, api.Convo{}, true)
	same(t, "nil and empty", api.Convo{}, api.Convo{Out: []api.Out{}, Held: []api.In{}}, true)
	same(t, "nil and empty, with numbers", made(9, 0, 0, 5), changed(made(9, 0, 0, 5), func(c *api.Convo) { c.Out, c.Held = []api.Out{}, make([]api.In, 0, 9) }), true)
	for _, c := range []api.Convo{made(9, 3, 1, 5, 6, 8), made(9, 4, 3, 5, 6, 7, 8), made(9, 1, 0, 5, 6)} {
		same(t, "itself", c, c, true)
		same(t, "a copy", c, copyOf(c), true)
		for what, f := range map[string]func(*api.Convo){
			"Next":               func(c *api.Convo) { c.Next++ },
			"Turn":               func(c *api.Convo) { c.Turn++ },
			"Delivered":          func(c *api.Convo) { c.Delivered-- },
			"Out, without last":  func(c *api.Convo) { c.Out = c.Out[:len(c.Out)-1] },
			"Out, without first": func(c *api.Convo) { c.Out = c.Out[1:] },
			"Out, one more":      func(c *api.Convo) { c.Out = append(c.Out, api.Out{}) },
			"Out, none":          func(c *api.Convo) { c.Out = nil },
			"Held, without last": func(c *api.Convo) { c.Held = c.Held[:len(c.Held)-1] },
			"Held, one more":     func(c *api.Convo) { c.Held = append(c.Held, api.In{}) },
			"Held, none":         func(c *api.Convo) { c.Held = nil },
		} {
			same(t, what, c, changed(c, f), false)
		}
		for i := range c.Out {
			same(t, "Out, Seq", c, changed(c, func(c *api.Convo) { c.Out[i].Seq ^= 1 << 31 }), false)
			for at := range c.Out[i].Body {
				same(t, "Out, Body", c, changed(c, func(c *api.Convo) { c.Out[i].Body[at] ^= 1 }), false)
			}
		}
		for i, in := range c.Held {
			same(t, "Held, Seq", c, changed(c, func(c *api.Convo) { c.Held[i].Seq ^= 1 << 31 }), false)
			for _, text := range []string{"", in.Text[1:], in.Text + "x", in.Text + "\x00", "x" + in.Text[1:]} {
				same(t, "Held, Text", c, changed(c, func(c *api.Convo) { c.Held[i].Text = text }), false)
			}
		}
	}
}

// P18.5: Same asks nothing else, not whether the conversations may be.
func TestSameWrong(t *testing.T) {
	list := wrongs()
	for i, w := range list {
		same(t, w.what, w.c, copyOf(w.c), true)
		for _, x := range list[:i] {
			same(t, w.what, w.c, x.c, alike(w.c, x.c))
		}
	}
}
