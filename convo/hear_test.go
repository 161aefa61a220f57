package convo_test

import (
	"fmt"
	"math"
	"math/rand"
	"strings"
	"testing"

	"hollowtree/api"
	"hollowtree/convo"
)

// rooms are those about the window, and the ends.
var rooms = []int{math.MinInt, math.MinInt32, -4, -1, 0, 1, 2, 3, 4, 5, 6, 9, 1 << 32, math.MaxInt}

// wants holds Wants against the words.
func wants(t *testing.T, c api.Convo, seq uint32, room int) {
	t.Helper()
	if got, want := convo.Wants(c, seq, room), wantsOf(c, seq, room); got != want {
		t.Errorf("%v: Wants(%d, %d): %t", brief(c), seq, room, got)
	}
}

// takes holds Take against the words.
func takes(t *testing.T, what string, c api.Convo, in api.In, room int) {
	t.Helper()
	d, list, err := convo.Take(c, in, room)
	want, texts, no := takeOf(c, in, room)
	if err != no || fmt.Sprintf("%q", list) != fmt.Sprintf("%q", texts) || !alike(d, want) {
		t.Errorf("%s: Take(%v, %d): %v, %q, %d; not %v, %q, %d", what, in, room, brief(d), list, err, brief(want), texts, no)
	}
	if err == api.OK && convo.Check(d) != api.OK {
		t.Errorf("%s: Take(%v, %d): %v may not be", what, in, room, brief(d))
	}
}

// about are the numbers about a window, and the ends.
func about(c api.Convo) []uint32 {
	list := []uint32{0, 1, bound - 1, bound, bound + 1, math.MaxUint32}
	for i := range uint32(9) {
		list = append(list, c.Delivered+i-2)
	}
	return list
}

// P18.4: each number about the window, of each room.
func TestWants(t *testing.T) {
	for _, c := range []api.Convo{{}, made(3, 2, 1, 10)} {
		for room, n := range map[int]uint32{math.MinInt: 0, -1: 0, 0: 0, 1: 1, 2: 2, 3: 3, 4: 4, 5: 4, 9: 4, math.MaxInt: 4} {
			for i := range uint32(8) {
				if got := convo.Wants(c, c.Delivered+i, room); got != (i < n) {
					t.Errorf("%d delivered, Wants(%d, %d): %t", c.Delivered, c.Delivered+i, room, got)
				}
			}
			for i := range c.Delivered {
				if convo.Wants(c, i, room) {
					t.Errorf("%d delivered, Wants(%d, %d): true", c.Delivered, i, room)
				}
			}
		}
	}
}

// P18.4: what is held is not wanted once more; what is between is.
func TestWantsHeld(t *testing.T) {
	for set := range uint32(8) {
		var held []uint32
		for j := range uint32(3) {
			if set>>j&1 == 1 {
				held = append(held, 11+j)
			}
		}
		c := made(0, 0, 0, 10, held...)
		for j := range uint32(3) {
			if got := convo.Wants(c, 11+j, 9); got != (set>>j&1 == 0) {
				t.Errorf("%v held, Wants(%d): %t", held, 11+j, got)
			}
			if convo.Wants(c, 11+j, int(1+j)) {
				t.Errorf("%v held, Wants(%d, %d): true", held, 11+j, 1+j)
			}
		}
		if !convo.Wants(c, 10, 1) || convo.Wants(c, 14, 9) || convo.Wants(c, 9, 9) {
			t.Errorf("%v held: the window's ends", held)
		}
	}
}

// P18.4: there is no number of 2^31, nor above.
func TestWantsNearBound(t *testing.T) {
	for i := range uint32(7) {
		c := api.Convo{Delivered: bound - i}
		for seq := uint32(bound - 8); seq < bound+8; seq++ {
			if got := convo.Wants(c, seq, 9); got != (seq >= bound-i && seq < bound && seq < bound-i+4) {
				t.Errorf("%d less than 2^31 delivered, Wants(%d): %t", i, seq, got)
			}
		}
	}
}

// P18.4: ErrSeq of what is not wanted, ahead of ErrConvo of its text.
func TestTakeNotWanted(t *testing.T) {
	c := made(3, 2, 1, 10, 11, 13)
	for _, text := range []string{"text", "", strings.Repeat("x", 49)} {
		for _, seq := range []uint32{0, 8, 9, 11, 13, 14, 15, bound, math.MaxUint32} {
			if d, list, err := convo.Take(c, api.In{Seq: seq, Text: text}, 9); err != api.ErrSeq || len(list) != 0 || !nothing(d) {
				t.Errorf("Take of %d, %q: %v, %q, %d", seq, text, brief(d), list, err)
			}
		}
		for room, seq := range map[int]uint32{math.MinInt: 10, -1: 10, 0: 10, 1: 12, 2: 12} {
			if d, list, err := convo.Take(c, api.In{Seq: seq, Text: text}, room); err != api.ErrSeq || len(list) != 0 || !nothing(d) {
				t.Errorf("Take of %d, %q, room %d: %v, %q, %d", seq, text, room, brief(d), list, err)
			}
		}
	}
}

// P18.4: a text has 1 to MaxText bytes, whether it is delivered or held.
func TestTakeTexts(t *testing.T) {
	c := made(3, 2, 1, 10, 11, 13)
	for _, seq := range []uint32{10, 12} {
		for n := range 300 {
			text := strings.Repeat("y", n)
			d, list, err := convo.Take(c, api.In{Seq: seq, Text: text}, 9)
			if n >= 1 && n <= 48 {
				takes(t, "a text that may be", c, api.In{Seq: seq, Text: text}, 9)
				if err != api.OK {
					t.Errorf("Take of %d bytes: %d", n, err)
				}
			} else if err != api.ErrConvo || len(list) != 0 || !nothing(d) {
				t.Errorf("Take of %d bytes: %v, %q, %d", n, brief(d), list, err)
			}
		}
	}
}

// P18.4: what is next is delivered, with what it was waited for; what is ahead is held, by rising numbers.
func TestTake(t *testing.T) {
	tests := []struct {
		held      []uint32
		seq       uint32
		delivered uint32
		behind    []uint32
	}{
		{nil, 10, 1, nil},
		{nil, 11, 0, []uint32{11}},
		{nil, 13, 0, []uint32{13}},
		{[]uint32{12}, 11, 0, []uint32{11, 12}},
		{[]uint32{12}, 13, 0, []uint32{12, 13}},
		{[]uint32{11, 13}, 12, 0, []uint32{11, 12, 13}},
		{[]uint32{11}, 10, 2, nil},
		{[]uint32{12}, 10, 1, []uint32{12}},
		{[]uint32{11, 13}, 10, 2, []uint32{13}},
		{[]uint32{12, 13}, 10, 1, []uint32{12, 13}},
		{[]uint32{11, 12, 13}, 10, 4, nil},
	}
	for _, x := range tests {
		d, list, err := convo.Take(made(7, 3, 2, 10, x.held...), api.In{Seq: x.seq, Text: textNo(x.seq)}, 4)
		var texts []string
		for i := range x.delivered {
			texts = append(texts, textNo(10+i))
		}
		if err != api.OK || fmt.Sprintf("%q", list) != fmt.Sprintf("%q", texts) || !alike(d, made(7, 3, 2, 10+x.delivered, x.behind...)) {
			t.Errorf("%v held, Take of %d: %v, %q, %d", x.held, x.seq, brief(d), list, err)
		}
	}
}

// P18.4: a room that is less than what is held counts for what is taken alone: all is delivered that then is in order.
func TestTakeLittleRoom(t *testing.T) {
	for room := 1; room < 6; room++ {
		c := taken(t, made(0, 0, 0, 10, 11, 12, 13), api.In{Seq: 10, Text: "ten"}, room, "ten", textNo(11), textNo(12), textNo(13))
		if !alike(c, made(0, 0, 0, 14)) {
			t.Errorf("room %d: %v", room, brief(c))
		}
	}
}

// P18.4: up to the last number there is.
func TestTakeNearBound(t *testing.T) {
	c := heldAs(bound-3, bound-1)
	c = taken(t, c, api.In{Seq: bound - 2, Text: "-2"}, 9)
	c = taken(t, c, api.In{Seq: bound - 3, Text: "-3"}, 9, "-3", "-2", "x")
	if !alike(c, made(0, 0, 0, bound)) || convo.Check(c) != api.OK {
		t.Errorf("%v", brief(c))
	}
	for _, seq := range about(c) {
		if d, list, err := convo.Take(c, api.In{Seq: seq, Text: "text"}, 9); err != api.ErrSeq || len(list) != 0 || !nothing(d) {
			t.Errorf("Take of %d: %v, %q, %d", seq, brief(d), list, err)
		}
	}
}

// P18.4: of a conversation that may not be Wants is false, and Take's error ErrConvo, ahead of ErrSeq.
func TestHearWrong(t *testing.T) {
	for _, w := range wrongs() {
		for _, seq := range about(w.c) {
			for _, room := range rooms {
				if convo.Wants(w.c, seq, room) {
					t.Errorf("%s: Wants(%d, %d)", w.what, seq, room)
				}
			}
			for _, text := range []string{"text", "", strings.Repeat("x", 49)} {
				if d, list, err := convo.Take(w.c, api.In{Seq: seq, Text: text}, 9); err != api.ErrConvo || len(list) != 0 || !nothing(d) {
					t.Errorf("%s: Take of %d: %v, %q, %d", w.what, seq, brief(d), list, err)
				}
			}
		}
	}
}

// P18.4: of some conversations, all of them, at each number about the window and each room.
func TestHearSome(t *testing.T) {
	some([]uint32{0, 1, 4, 9, bound - 5, bound - 4, bound - 3, bound - 2, bound - 1, bound}, func(c api.Convo) {
		for _, seq := range about(c) {
			for _, room := range rooms {
				wants(t, c, seq, room)
			}
			takes(t, "some", c, api.In{Seq: seq, Text: "text"}, int(3+seq%3))
		}
	})
}

// P18.4: drawn ones, some of which may not be.
func TestHearDrawn(t *testing.T) {
	d := rand.New(rand.NewSource(2))
	for range 20000 {
		c := drawn(d)
		if d.Intn(4) == 0 {
			c = spoilt(d, c)
		}
		seq := c.Delivered + uint32(d.Intn(7)) - 1
		room := rooms[d.Intn(len(rooms))]
		wants(t, c, seq, room)
		takes(t, "drawn", c, api.In{Seq: seq, Text: strings.Repeat("z", d.Intn(50))}, room)
	}
}
