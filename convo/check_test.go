package convo_test

import (
	"math"
	"math/rand"
	"testing"

	"hollowtree/api"
	"hollowtree/convo"
)

// rights are conversations that may be, each at a limit that it just keeps.
func rights() []api.Convo {
	list := []api.Convo{
		{},
		{Out: []api.Out{}, Held: []api.In{}},
		made(bound, 0, 0, 0),
		made(bound, 1, 0, 0),
		made(bound, 4, 3, 0),
		made(4, 4, 0, 0),
		made(5, 4, 3, 0),
		made(3, 3, 2, 0),
		made(1, 1, 0, 0),
		made(7, 0, 0, 0),
		made(5, 3, 0, 0),
		made(5, 3, 1, 0),
		outAs(1, 0),
		outAs(5, 3, 4),
		made(0, 0, 0, bound),
		made(0, 0, 0, bound-1),
		made(bound, 4, 3, bound),
		heldAs(0, 1),
		heldAs(0, 3),
		heldAs(0, 1, 2, 3),
		heldAs(5, 6, 8),
		heldAs(5, 8),
		heldAs(bound-4, bound-3, bound-2, bound-1),
		heldAs(bound-3, bound-2, bound-1),
		heldAs(bound-2, bound-1),
		made(bound, 4, 1, bound-4, bound-3, bound-2, bound-1),
	}
	for i := range 3 {
		for _, n := range []int{1, 2, 47, 48} {
			c := made(5, 2, 1, 10, 11, 12, 13)
			c.Held[i].Text = string(make([]byte, n))
			list = append(list, c)
		}
	}
	return list
}

// P18.1: each limit just kept.
func TestCheck(t *testing.T) {
	for _, c := range rights() {
		if err := convo.Check(c); err != api.OK || !mayBe(c) {
			t.Errorf("%v: %d", brief(c), err)
		}
	}
	some(numbers, func(c api.Convo) {
		if err := convo.Check(c); err != api.OK || !mayBe(c) {
			t.Errorf("%v: %d", brief(c), err)
		}
	})
}

// P18.1: each limit just passed.
func TestCheckWrong(t *testing.T) {
	for _, w := range wrongs() {
		if err := convo.Check(w.c); err != api.ErrConvo || mayBe(w.c) {
			t.Errorf("%s: %d", w.what, err)
		}
	}
}

// spoilt is a conversation of which one thing was changed: it may still be, or may not.
func spoilt(d *rand.Rand, c api.Convo) api.Convo {
	by := []uint32{1, 2, 3, 4, 5, math.MaxUint32, math.MaxUint32 - 1, 1 << 31, d.Uint32()}[d.Intn(9)]
	switch x := d.Intn(9); {
	case x == 0:
		c.Next += by
	case x == 1:
		c.Turn += int(int32(by))
	case x == 2:
		c.Delivered += by
	case x == 3 && len(c.Out) > 0:
		c.Out[d.Intn(len(c.Out))].Seq += by
	case x == 4 && len(c.Out) > 0:
		c.Out = c.Out[d.Intn(2) : len(c.Out)-d.Intn(2)*(len(c.Out)/2)]
	case x == 5:
		c.Out = append(c.Out, api.Out{Seq: c.Next})
	case x == 6 && len(c.Held) > 0:
		c.Held[d.Intn(len(c.Held))].Seq += by
	case x == 7 && len(c.Held) > 0:
		c.Held[d.Intn(len(c.Held))].Text += string(make([]byte, d.Intn(49)))
	default:
		c.Held = append(c.Held, api.In{Seq: c.Delivered + by, Text: "more"})
	}
	return c
}

// P18.1: drawn ones, of which one thing or two were changed.
func TestCheckDrawn(t *testing.T) {
	d := rand.New(rand.NewSource(1))
	count := map[bool]int{}
	for range 40000 {
		c := spoilt(d, drawn(d))
		if d.Intn(2) == 0 {
			c = spoilt(d, c)
		}
		may := mayBe(c)
		count[may]++
		if got := convo.Check(c) == api.OK; got != may {
			t.Errorf("%v: %t", brief(c), got)
		}
	}
	if count[true] < 1000 || count[false] < 1000 {
		t.Errorf("%v", count)
	}
}
