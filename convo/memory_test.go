package convo_test

import (
	"bytes"
	"fmt"
	"slices"
	"testing"

	"hollowtree/api"
	"hollowtree/convo"
)

// roomy is a conversation whose lists have room behind their ends that is filled, and all of these lists.
func roomy(c api.Convo) (api.Convo, []api.Out, []api.In) {
	out := append(slices.Clone(c.Out), slices.Repeat([]api.Out{{Seq: 0xeeeeeeee, Body: bodyNo(0xee)}}, 9)...)
	held := append(slices.Clone(c.Held), slices.Repeat([]api.In{{Seq: 0xeeeeeeee, Text: "behind the end"}}, 9)...)
	c.Out, c.Held = out[:len(c.Out)], held[:len(c.Held)]
	return c, out, held
}

// spoil changes what lists have, and the room behind their ends.
func spoil(out []api.Out, held []api.In) {
	for i := range out[:cap(out)] {
		out[:cap(out)][i] = api.Out{Seq: uint32(i), Body: bodyNo(0x55)}
	}
	for i := range held[:cap(held)] {
		held[:cap(held)][i] = api.In{Seq: uint32(i), Text: "spoilt"}
	}
}

// answer is what a call answers of a conversation.
type answer struct {
	c     api.Convo
	texts []string
}

func (a answer) copied() answer { return answer{copyOf(a.c), slices.Clone(a.texts)} }

func (a answer) is(b answer) bool { return alike(a.c, b.c) && slices.Equal(a.texts, b.texts) }

// keepsApart asks twice, and looks whether what is handed in is changed or kept, or an answer is told twice.
func keepsApart(t *testing.T, what string, c api.Convo, ask func(api.Convo) answer) {
	t.Helper()
	want := ask(copyOf(c)).copied()
	given, out, held := roomy(c)
	wasOut, wasHeld := slices.Clone(out), slices.Clone(held)
	one, other := ask(given), ask(given)
	if !slices.Equal(out, wasOut) || !slices.Equal(held, wasHeld) {
		t.Errorf("%s: what is handed in is changed", what)
	}
	if !one.is(want) || !other.is(want) {
		t.Errorf("%s: %v, then %v; not %v", what, brief(one.c), brief(other.c), brief(want.c))
	}
	spoil(one.c.Out, one.c.Held)
	for i := range one.texts[:cap(one.texts)] {
		one.texts[:cap(one.texts)][i] = "spoilt"
	}
	if !slices.Equal(out, wasOut) || !slices.Equal(held, wasHeld) || !other.is(want) {
		t.Errorf("%s: what is answered is kept", what)
	}
	spoil(out, held)
	if !other.is(want) {
		t.Errorf("%s: what is handed in is kept", what)
	}
}

// few are conversations that may be: of each count in Out and Held, each set that can be held.
func few() []api.Convo {
	var list []api.Convo
	some([]uint32{9}, func(c api.Convo) { list = append(list, c) })
	return list
}

// R3: Queue, Turn and Acked; where they refuse, too.
func TestSayMemory(t *testing.T) {
	for _, c := range few() {
		what := fmt.Sprint(brief(c))
		keepsApart(t, what+": Queue", c, func(c api.Convo) answer {
			c, _, _ = convo.Queue(c, bodyNo(3))
			return answer{c: c}
		})
		keepsApart(t, what+": Turn", c, func(c api.Convo) answer {
			c, _, _ = convo.Turn(c)
			return answer{c: c}
		})
		for n := uint32(4); n < 12; n++ {
			keepsApart(t, what+": Acked", c, func(c api.Convo) answer {
				c, _, _ = convo.Acked(c, n)
				return answer{c: c}
			})
		}
	}
}

// R3: Take, of what is next, ahead, and not wanted; of texts that may not be, too.
func TestTakeMemory(t *testing.T) {
	for _, c := range few() {
		for seq := uint32(8); seq < 15; seq++ {
			for _, text := range []string{"text", ""} {
				keepsApart(t, fmt.Sprint(brief(c), ": Take"), c, func(c api.Convo) answer {
					c, texts, _ := convo.Take(c, api.In{Seq: seq, Text: text}, 9)
					return answer{c, texts}
				})
			}
		}
	}
}

// R3: all calls, of conversations that may not be.
func TestWrongMemory(t *testing.T) {
	for _, w := range wrongs() {
		keepsApart(t, w.what, w.c, func(c api.Convo) answer {
			convo.Check(c)
			convo.Wants(c, c.Delivered, 9)
			convo.Put(c)
			convo.Same(c, w.c)
			convo.Queue(c, bodyNo(3))
			convo.Turn(c)
			convo.Acked(c, c.Next)
			d, texts, _ := convo.Take(c, api.In{Seq: c.Delivered, Text: "text"}, 9)
			return answer{d, texts}
		})
	}
}

// R3: what asks only changes nothing.
func TestAskedMemory(t *testing.T) {
	for _, c := range few() {
		given, out, held := roomy(c)
		wasOut, wasHeld := slices.Clone(out), slices.Clone(held)
		convo.Check(given)
		convo.Wants(given, 10, 9)
		convo.Put(given)
		convo.Same(given, c)
		convo.Same(c, given)
		if !slices.Equal(out, wasOut) || !slices.Equal(held, wasHeld) {
			t.Errorf("%v: what is handed in is changed", brief(c))
		}
	}
}

// R3: what Put answers is told once, and shares nothing.
func TestPutMemory(t *testing.T) {
	for _, c := range few() {
		given, _, _ := roomy(c)
		one, _ := convo.Put(given)
		other, _ := convo.Put(given)
		one = one[:cap(one)]
		for i := range one {
			one[i] ^= 0x55
		}
		if !bytes.Equal(other, bytesOf(c)) || !alike(given, c) {
			t.Errorf("%v: one memory is answered twice", brief(c))
		}
	}
}

// R3: Get neither changes nor keeps its bytes, and what it answers is told once.
func TestGetMemory(t *testing.T) {
	for _, c := range few() {
		for _, right := range []bool{true, false} {
			all := append(bytesOf(c), bytes.Repeat([]byte{0xee}, 200)...)
			want := c
			if !right {
				all[589] = 1
				want = api.Convo{}
			}
			was := bytes.Clone(all)
			one, _ := convo.Get(all[:590])
			other, _ := convo.Get(all[:590])
			if !bytes.Equal(all, was) || !alike(one, want) {
				t.Errorf("%v: the bytes are changed", brief(c))
			}
			spoil(one.Out, one.Held)
			if !alike(other, want) {
				t.Errorf("%v: one memory is answered twice", brief(c))
			}
			for i := range all {
				all[i] ^= 0x55
			}
			if !alike(other, want) {
				t.Errorf("%v: the bytes are kept", brief(c))
			}
		}
	}
}
