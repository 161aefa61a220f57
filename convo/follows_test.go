package convo_test

import (
	"fmt"
	"math"
	"math/rand"
	"slices"
	"testing"

	"hollowtree/api"
	"hollowtree/convo"
)

// P18.6: Get of Put is the conversation, Put of Get the bytes.
func TestPutIsGot(t *testing.T) {
	d := rand.New(rand.NewSource(10))
	for range 3000 {
		c := drawn(d)
		b, err := convo.Put(c)
		got, wrong := convo.Get(b)
		if err != api.OK || wrong != api.OK || !convo.Same(got, c) || !alike(got, c) {
			t.Errorf("%v: %d, %d, %v", brief(c), err, wrong, brief(got))
		}
		b = bytesOf(c)
		b[d.Intn(len(b))] = byte(d.Intn(7))
		got, err = convo.Get(b)
		if err != api.OK {
			continue
		}
		if again, err := convo.Put(got); err != api.OK || !slices.Equal(again, b) {
			t.Errorf("Put of Get: %x, %d; not %x", again, err, b)
		}
	}
}

// P18.6: what is queued is told by Turn within as many turns as Out has, from each place, again and again.
func TestTurnTellsAll(t *testing.T) {
	some([]uint32{0, 3, 9, bound}, func(c api.Convo) {
		for range 3 {
			seen := map[uint32]int{}
			for range c.Out {
				d, o, err := convo.Turn(c)
				if err != api.OK || o.Body != bodyNo(o.Seq) {
					t.Fatalf("%v: Turn: %d, %d", brief(c), o.Seq, err)
				}
				seen[o.Seq]++
				c = d
			}
			for _, o := range c.Out {
				if seen[o.Seq] != 1 {
					t.Errorf("%v: %v", brief(c), seen)
				}
			}
		}
	})
}

// P18.6: between two turns of a message there are never more than MaxOut less one others, whatever is queued and acked meanwhile.
func TestTurnTellsSoon(t *testing.T) {
	d := rand.New(rand.NewSource(11))
	for range 30 {
		var c api.Convo
		waits := map[uint32]int{}
		for range 400 {
			switch x := d.Intn(10); {
			case x < 3:
				if e, n, err := convo.Queue(c, body{}); err == api.OK {
					c = e
					waits[n] = 0
				}
			case x < 5:
				n := c.Next - uint32(d.Intn(len(c.Out)+1))
				e, _, err := convo.Acked(c, n)
				if err != api.OK {
					t.Fatalf("%v: Acked(%d): %d", brief(c), n, err)
				}
				c = e
				for seq := range waits {
					if seq < n {
						delete(waits, seq)
					}
				}
			default:
				e, o, err := convo.Turn(c)
				if (err == api.OK) != (len(waits) > 0) {
					t.Fatalf("%v: Turn: %d", brief(c), err)
				}
				if err != api.OK {
					continue
				}
				c = e
				if _, there := waits[o.Seq]; !there {
					t.Fatalf("%v: Turn: %d is none that waits", brief(c), o.Seq)
				}
				for seq := range waits {
					waits[seq]++
					if waits[seq] > 4 {
						t.Fatalf("%v: %d turns without %d", brief(c), waits[seq], seq)
					}
				}
				waits[o.Seq] = 0
			}
		}
	}
}

// letter is what goes from one side to the other.
type letter struct {
	ack  uint32
	text bool
	seq  uint32
	body body
}

// side is one of two, with what it queued, what was delivered to it, and what of that is not purged.
type side struct {
	c      api.Convo
	from   uint32
	queued []string
	heard  []string
	inbox  int
	under  []letter
}

// both begin with so many queued, acked and delivered already.
func both(from uint32) (*side, *side) {
	c := api.Convo{Next: from, Delivered: from}
	return &side{c: c, from: from}, &side{c: c, from: from}
}

// goOn goes on with another conversation: nothing goes back.
func (s *side) goOn(t *testing.T, c api.Convo) {
	t.Helper()
	was, is := s.c.Next-uint32(len(s.c.Out)), c.Next-uint32(len(c.Out))
	if convo.Check(c) != api.OK || c.Delivered < s.c.Delivered || is < was || c.Next < s.c.Next {
		t.Fatalf("%v, then %v", brief(s.c), brief(c))
	}
	s.c = c
}

// queue queues a text; it is refused when the window is full alone, or the numbers are at their end.
func (s *side) queue(t *testing.T, text string) {
	t.Helper()
	b := body{0: byte(len(text))}
	copy(b[1:], text)
	c, n, err := convo.Queue(s.c, b)
	if full := len(s.c.Out) == 4 || s.c.Next == bound; full != (err == api.ErrFull) || !full && (err != api.OK || n != s.from+uint32(len(s.queued))) {
		t.Fatalf("%v: Queue: %d, %d", brief(s.c), n, err)
	}
	if err == api.OK {
		s.goOn(t, c)
		s.queued = append(s.queued, text)
	}
}

// say makes the letter of a round.
func (s *side) say(t *testing.T) letter {
	t.Helper()
	l := letter{ack: s.c.Delivered}
	c, o, err := convo.Turn(s.c)
	if (err == api.ErrNone) != (len(s.c.Out) == 0) {
		t.Fatalf("%v: Turn: %d", brief(s.c), err)
	}
	if err == api.OK {
		s.goOn(t, c)
		l.text, l.seq, l.body = true, o.Seq, o.Body
	}
	return l
}

// hear lets a letter of the other side arrive: what is delivered is what comes next of what that side queued.
func (s *side) hear(t *testing.T, l letter, room int, other *side) {
	t.Helper()
	c, _, err := convo.Acked(s.c, l.ack)
	if err != api.OK {
		t.Fatalf("%v: Acked(%d): %d", brief(s.c), l.ack, err)
	}
	s.goOn(t, c)
	if !l.text {
		return
	}
	wanted := convo.Wants(s.c, l.seq, room)
	c, list, err := convo.Take(s.c, api.In{Seq: l.seq, Text: string(l.body[1 : 1+l.body[0]])}, room)
	if wanted != (err == api.OK) || !wanted && (err != api.ErrSeq || len(list) > 0) {
		t.Fatalf("%v: Take of %d: %q, %d", brief(s.c), l.seq, list, err)
	}
	if !wanted {
		return
	}
	s.goOn(t, c)
	s.heard = append(s.heard, list...)
	s.inbox += len(list)
	n := len(s.heard)
	if n > len(other.queued) || !slices.Equal(s.heard, other.queued[:n]) || s.c.Delivered != s.from+uint32(n) {
		t.Fatalf("%v: delivered %q, not of %q", brief(s.c), s.heard, other.queued)
	}
}

// stored lets a side be put, and got again.
func (s *side) stored(t *testing.T) {
	t.Helper()
	b, err := convo.Put(s.c)
	c, wrong := convo.Get(b)
	if err != api.OK || wrong != api.OK || !alike(c, s.c) {
		t.Fatalf("%v: %d, %d, %v", brief(s.c), err, wrong, brief(c))
	}
	s.c = c
}

// arrive lets a drawn letter arrive that is under way to a side; it may come again.
func (s *side) arrive(t *testing.T, d *rand.Rand, room int, other *side) {
	t.Helper()
	if len(s.under) == 0 {
		return
	}
	at := d.Intn(len(s.under))
	s.hear(t, s.under[at], room, other)
	if d.Intn(4) > 0 {
		s.under = slices.Delete(s.under, at, at+1)
	}
}

// step does a drawn thing; roomOf tells the room that a side has.
func step(t *testing.T, d *rand.Rand, s, other *side, roomOf func(*side) int) {
	t.Helper()
	switch x := d.Intn(20); {
	case x < 4:
		s.queue(t, fmt.Sprintf("text %d of %d", len(s.queued), d.Intn(100)))
	case x < 10:
		other.under = append(other.under, s.say(t))
	case x < 16:
		s.arrive(t, d, roomOf(s), other)
	case x < 17 && len(s.under) > 0:
		at := d.Intn(len(s.under))
		s.under = slices.Delete(s.under, at, at+1)
	case x < 19:
		s.inbox -= d.Intn(s.inbox + 1)
	default:
		s.stored(t)
	}
}

// rounds lets all that is said arrive, of both sides at once, with room enough.
func rounds(t *testing.T, n int, a, b *side) {
	t.Helper()
	for range n {
		x, y := a.say(t), b.say(t)
		a.hear(t, y, 4, b)
		b.hear(t, x, 4, a)
	}
}

// allHeard looks that MaxOut rounds are enough for all to be delivered, and one more for all to be acked.
func allHeard(t *testing.T, a, b *side) {
	t.Helper()
	rounds(t, 4, a, b)
	for _, s := range [][2]*side{{a, b}, {b, a}} {
		if len(s[0].heard) != len(s[1].queued) || s[0].c.Delivered != s[1].c.Next || len(s[0].c.Held) > 0 {
			t.Fatalf("%v hears not all of %v", brief(s[0].c), brief(s[1].c))
		}
	}
	rounds(t, 1, a, b)
	if len(a.c.Out)+len(b.c.Out) > 0 {
		t.Fatalf("%v, %v: not all is acked", brief(a.c), brief(b.c))
	}
}

// P18.6: two sides, whose letters are lost, doubled and out of order; the room is what an inbox has left, and is never passed.
func TestConversations(t *testing.T) {
	d := rand.New(rand.NewSource(12))
	heard := 0
	for n := range 60 {
		a, b := both([]uint32{0, 0, 1000, bound - 30, bound - 6}[n%5])
		roomOf := func(s *side) int { return 6 - s.inbox }
		for range 400 {
			if d.Intn(2) == 0 {
				a, b = b, a
			}
			step(t, d, a, b, roomOf)
			if a.inbox > 6 || b.inbox > 6 {
				t.Fatalf("%d, %d in the inboxes", a.inbox, b.inbox)
			}
		}
		heard += len(a.heard) + len(b.heard)
		allHeard(t, a, b)
	}
	if heard < 1000 {
		t.Errorf("only %d texts were heard", heard)
	}
}

// P18.6: the same, at drawn rooms: too little, none, and less than none.
func TestConversationsAtDrawnRooms(t *testing.T) {
	d := rand.New(rand.NewSource(13))
	heard := 0
	for range 60 {
		a, b := both(0)
		roomOf := func(*side) int { return []int{math.MinInt, -1, 0, 1, 1, 2, 2, 3, 4, 5, math.MaxInt}[d.Intn(11)] }
		for range 400 {
			if d.Intn(2) == 0 {
				a, b = b, a
			}
			step(t, d, a, b, roomOf)
		}
		heard += len(a.heard) + len(b.heard)
		allHeard(t, a, b)
	}
	if heard < 1000 {
		t.Errorf("only %d texts were heard", heard)
	}
}

// P18.6: MaxOut messages that go there are enough, though nothing comes back.
func TestOneWay(t *testing.T) {
	d := rand.New(rand.NewSource(14))
	for range 200 {
		a, b := both(0)
		for range 1 + d.Intn(60) {
			step(t, d, a, b, func(s *side) int { return 6 - s.inbox })
			a, b = b, a
		}
		for range 4 {
			b.hear(t, a.say(t), 4, a)
		}
		if len(b.heard) != len(a.queued) || b.c.Delivered != a.c.Next {
			t.Fatalf("%v hears not all of %v", brief(b.c), brief(a.c))
		}
	}
}

// P18.6: a window's messages in each order, each once and then all again: they are delivered in order, each once.
func TestOrders(t *testing.T) {
	orders(4, func(order []int) {
		a, b := both(0)
		for i := range 4 {
			a.queue(t, fmt.Sprint("text ", i))
		}
		var list []letter
		for range 4 {
			list = append(list, a.say(t))
		}
		for i, at := range order {
			b.hear(t, list[at], 4, a)
			for _, earlier := range order[:i+1] {
				was := len(b.heard)
				if b.hear(t, list[earlier], 4, a); len(b.heard) != was {
					t.Errorf("in the order %v: heard twice", order)
				}
			}
		}
		if len(b.heard) != 4 || b.c.Delivered != 4 || len(b.c.Held) > 0 {
			t.Errorf("in the order %v: %v", order, brief(b.c))
		}
	})
}

// orders calls f with each order of the numbers below n.
func orders(n int, f func([]int)) {
	list := make([]int, n)
	for i := range list {
		list[i] = i
	}
	var place func(int)
	place = func(at int) {
		if at == n {
			f(list)
			return
		}
		for i := at; i < n; i++ {
			list[at], list[i] = list[i], list[at]
			place(at + 1)
			list[at], list[i] = list[i], list[at]
		}
	}
	place(0)
}

// P18.6: up to the last number, and no further: all is delivered and acked then, and nothing more is queued.
func TestToTheEnd(t *testing.T) {
	a, b := both(bound - 6)
	for range 4 {
		for i := range 4 {
			a.queue(t, fmt.Sprint("text ", i))
			b.queue(t, fmt.Sprint("text ", i))
		}
		allHeard(t, a, b)
	}
	for _, s := range []*side{a, b} {
		if len(s.heard) != 6 || s.c.Next != bound || s.c.Delivered != bound {
			t.Errorf("%v: %q", brief(s.c), s.heard)
		}
		s.stored(t)
	}
}
