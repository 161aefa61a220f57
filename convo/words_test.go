package convo_test

import (
	"math/rand"
	"slices"

	"hollowtree/api"
)

// The chapter's words, told once more in the tests' own way: texts that are held stand in a map, numbers go beyond 32 bits.

// mayBe: a conversation that may be.
func mayBe(c api.Convo) bool {
	for i, o := range c.Out {
		if int64(o.Seq) != int64(c.Next)-int64(len(c.Out))+int64(i) {
			return false
		}
	}
	above := int64(c.Delivered)
	for _, in := range c.Held {
		seq := int64(in.Seq)
		if seq <= above || seq >= int64(c.Delivered)+4 || seq >= bound || len(in.Text) == 0 || len(in.Text) > 48 {
			return false
		}
		above = seq
	}
	turn := c.Turn == 0 || c.Turn > 0 && c.Turn < len(c.Out)
	return c.Next <= bound && len(c.Out) <= 4 && turn && c.Delivered <= bound && len(c.Held) <= 3
}

func queueOf(c api.Convo, b body) (api.Convo, uint32, api.Errno) {
	switch {
	case !mayBe(c):
		return api.Convo{}, 0, api.ErrConvo
	case len(c.Out) == 4 || c.Next == bound:
		return api.Convo{}, 0, api.ErrFull
	}
	c = copyOf(c)
	c.Out = append(c.Out, api.Out{Seq: c.Next, Body: b})
	c.Next++
	return c, c.Next - 1, api.OK
}

func turnOf(c api.Convo) (api.Convo, api.Out, api.Errno) {
	switch {
	case !mayBe(c):
		return api.Convo{}, api.Out{}, api.ErrConvo
	case len(c.Out) == 0:
		return api.Convo{}, api.Out{}, api.ErrNone
	}
	c = copyOf(c)
	o := c.Out[c.Turn]
	if c.Turn++; c.Turn == len(c.Out) {
		c.Turn = 0
	}
	return c, o, api.OK
}

func ackedOf(c api.Convo, n uint32) (api.Convo, int, api.Errno) {
	switch {
	case !mayBe(c):
		return api.Convo{}, 0, api.ErrConvo
	case n > c.Next:
		return api.Convo{}, 0, api.ErrAck
	}
	behind := copyOf(c)
	behind.Out = nil
	for _, o := range c.Out {
		if o.Seq >= n {
			behind.Out = append(behind.Out, o)
		}
	}
	gone := len(c.Out) - len(behind.Out)
	behind.Turn = c.Turn - gone
	if c.Turn < gone || len(behind.Out) == 0 {
		behind.Turn = 0
	}
	return behind, gone, api.OK
}

func wantsOf(c api.Convo, seq uint32, room int) bool {
	for _, in := range c.Held {
		if in.Seq == seq {
			return false
		}
	}
	for i := range int64(4) {
		if int64(room) > i && int64(seq) == int64(c.Delivered)+i {
			return mayBe(c) && seq < bound
		}
	}
	return false
}

func takeOf(c api.Convo, in api.In, room int) (api.Convo, []string, api.Errno) {
	switch {
	case !mayBe(c):
		return api.Convo{}, nil, api.ErrConvo
	case !wantsOf(c, in.Seq, room):
		return api.Convo{}, nil, api.ErrSeq
	case len(in.Text) == 0 || len(in.Text) > 48:
		return api.Convo{}, nil, api.ErrConvo
	}
	held := map[uint32]string{in.Seq: in.Text}
	for _, h := range c.Held {
		held[h.Seq] = h.Text
	}
	c = copyOf(c)
	c.Held = nil
	var list []string
	for held[c.Delivered] != "" {
		list = append(list, held[c.Delivered])
		delete(held, c.Delivered)
		c.Delivered++
	}
	for i := range uint32(4) {
		if text := held[c.Delivered+i]; text != "" {
			c.Held = append(c.Held, api.In{Seq: c.Delivered + i, Text: text})
		}
	}
	return c, list, api.OK
}

// bytesOf are the bytes of a conversation that may be, each laid at its place.
func bytesOf(c api.Convo) []byte {
	b := make([]byte, 590)
	low := func(at int, x uint32) {
		for i := range 4 {
			b[at+i] = byte(x >> (8 * i))
		}
	}
	low(0, c.Next)
	b[4], b[5] = byte(len(c.Out)), byte(c.Turn)
	for i, o := range c.Out {
		copy(b[6+105*i:], o.Body[:])
	}
	low(426, c.Delivered)
	b[430] = byte(len(c.Held))
	for i, in := range c.Held {
		low(431+53*i, in.Seq)
		b[435+53*i] = byte(len(in.Text))
		copy(b[436+53*i:], in.Text)
	}
	return b
}

// numbers are those about both ends.
var numbers = []uint32{0, 1, 2, 3, 4, 5, 6, 7, 8, 9, 100, 1 << 16, bound - 9, bound - 6, bound - 5, bound - 4, bound - 3, bound - 2, bound - 1, bound}

// some are all conversations that may be, of some numbers: each count in Out, each Turn, and each list of those that can be held.
func some(numbers []uint32, f func(api.Convo)) {
	for _, next := range numbers {
		for out := range min(5, int(next)+1) {
			for turn := range max(out, 1) {
				for i := range numbers {
					delivered := numbers[(i+out+turn)%len(numbers)]
					for set := range 8 {
						var held []uint32
						for j := range uint32(3) {
							if set>>j&1 == 1 && delivered+1+j < bound {
								held = append(held, delivered+1+j)
							}
						}
						f(made(next, out, turn, delivered, held...))
					}
				}
			}
		}
	}
}

// drawn is a conversation that may be.
func drawn(d *rand.Rand) api.Convo {
	number := func() uint32 {
		if d.Intn(3) == 0 {
			return uint32(d.Intn(bound + 1))
		}
		return numbers[d.Intn(len(numbers))]
	}
	next, delivered := number(), number()
	out := d.Intn(1 + min(4, int(next)))
	c := made(next, out, d.Intn(max(out, 1)), delivered)
	for j := range uint32(3) {
		if seq := delivered + 1 + j; seq < bound && d.Intn(2) == 0 {
			text := make([]byte, 1+d.Intn(48))
			d.Read(text)
			c.Held = append(c.Held, api.In{Seq: seq, Text: string(text)})
		}
	}
	return c
}

// wrong is what is said of a conversation that may not be.
type wrong struct {
	what string
	c    api.Convo
}

// changed is a conversation, changed.
func changed(c api.Convo, f func(*api.Convo)) api.Convo {
	c = copyOf(c)
	f(&c)
	return c
}

// heldAs is a conversation with so much delivered, and short texts of the numbers.
func heldAs(delivered uint32, held ...uint32) api.Convo {
	c := api.Convo{Delivered: delivered}
	for _, seq := range held {
		c.Held = append(c.Held, api.In{Seq: seq, Text: "x"})
	}
	return c
}

// outAs is a conversation with Next, and messages of the numbers.
func outAs(next uint32, out ...uint32) api.Convo {
	c := api.Convo{Next: next}
	for _, seq := range out {
		c.Out = append(c.Out, api.Out{Seq: seq})
	}
	return c
}

// wrongs are conversations that may not be, each for one reason alone.
func wrongs() []wrong {
	list := []wrong{
		{"Next of 2^31 and one more", made(bound+1, 0, 0, 0)},
		{"the same, one in Out", made(bound+1, 1, 0, 0)},
		{"the same, four in Out", made(bound+1, 4, 0, 0)},
		{"Next of the greatest number", made(1<<32-1, 2, 1, 0)},
		{"five in Out", made(9, 5, 0, 0)},
		{"five in Out, all that went out", made(5, 5, 4, 0)},
		{"300 in Out", made(1000, 300, 0, 0)},
		{"Out's last one is Next", outAs(5, 4, 5)},
		{"Out's last one is Next less two", outAs(5, 2, 3)},
		{"Out's numbers rise by two", outAs(5, 2, 4)},
		{"Out's numbers do not rise", outAs(5, 4, 4)},
		{"Out's numbers sink", outAs(5, 4, 3)},
		{"Out's numbers have a gap", outAs(5, 1, 3, 4)},
		{"Out's numbers have a gap behind two", outAs(9, 5, 6, 8)},
		{"Out's numbers stand still behind two", outAs(8, 5, 6, 6, 7)},
		{"Out's first one alone is wrong", outAs(8, 9, 5, 6, 7)},
		{"Out's last one alone is wrong", outAs(8, 4, 5, 6, 9)},
		{"Next of 0, one in Out, of 0", outAs(0, 0)},
		{"Next of 0, one in Out, of the greatest number", outAs(0, 1<<32-1)},
		{"Next of 1, two in Out", outAs(1, 1<<32-1, 0)},
		{"Next of 3, four in Out", outAs(3, 1<<32-1, 0, 1, 2)},
		{"Turn of -1, none in Out", made(5, 0, -1, 0)},
		{"Turn of -1, three in Out", made(5, 3, -1, 0)},
		{"Turn of the least number", made(5, 3, -1<<63, 0)},
		{"Turn of how many Out has", made(5, 3, 3, 0)},
		{"Turn of how many Out has, four", made(5, 4, 4, 0)},
		{"Turn of one more", made(5, 1, 2, 0)},
		{"Turn of the greatest number", made(5, 3, 1<<63-1, 0)},
		{"Turn of 2^32", made(5, 3, 1<<32, 0)},
		{"Turn of 1, none in Out", made(5, 0, 1, 0)},
		{"Delivered of 2^31 and one more", made(0, 0, 0, bound+1)},
		{"Delivered of the greatest number", made(0, 0, 0, 1<<32-1)},
		{"the same, with 0 held", heldAs(1<<32-1, 0)},
		{"the same, with 2 held", heldAs(1<<32-2, 2)},
		{"four held", heldAs(5, 6, 7, 8, 9)},
		{"four held, in the window", heldAs(5, 5, 6, 7, 8)},
		{"300 held", heldAs(5, slices.Repeat([]uint32{6, 7, 8}, 100)...)},
		{"Held does not rise", heldAs(5, 6, 6)},
		{"Held sinks", heldAs(5, 7, 6)},
		{"Held sinks behind two", heldAs(5, 6, 8, 7)},
		{"Held of Delivered", heldAs(5, 5)},
		{"Held of Delivered and more", heldAs(5, 5, 6)},
		{"Held of 0, and Delivered of 0", heldAs(0, 0)},
		{"Held below Delivered", heldAs(5, 4)},
		{"Held of Delivered and four", heldAs(5, 9)},
		{"Held of Delivered and four, behind others", heldAs(5, 6, 8, 9)},
		{"Held of 4, and Delivered of 0", heldAs(0, 4)},
		{"Held of the greatest number", heldAs(0, 1<<32-1)},
		{"Held of 2^31", heldAs(bound-1, bound)},
		{"Held of 2^31, behind one less", heldAs(bound-2, bound-1, bound)},
		{"Held of 2^31, behind two less", heldAs(bound-3, bound-2, bound-1, bound)},
		{"Held of 2^31, Delivered the same", heldAs(bound, bound)},
		{"Held of 2^31 and one, Delivered of 2^31", heldAs(bound, bound+1)},
	}
	for i := range 3 {
		for _, n := range []int{0, 49, 256, 257} {
			c := made(5, 2, 1, 10, 11, 12, 13)
			c.Held[i].Text = string(make([]byte, n))
			list = append(list, wrong{"Held with a text of another length", c})
		}
	}
	return list
}
