package ratchet_test

import (
	"fmt"
	"math/rand"
	"slices"
	"testing"

	"hollowtree/api"
	"hollowtree/ratchet"
)

// orders calls f with each order of the numbers below n.
func orders(n int, f func([]int)) {
	list := make([]int, n)
	for i := range list {
		list[i] = i
	}
	var place func(int)
	place = func(at int) {
		if at == n {
			f(list)
			return
		}
		for i := at; i < n; i++ {
			list[at], list[i] = list[i], list[at]
			place(at + 1)
			list[at], list[i] = list[i], list[at]
		}
	}
	place(0)
}

// letter is a message, and what it says.
type letter struct {
	m    api.Message
	text string
}

func (s *side) say(t *testing.T, text string) letter {
	t.Helper()
	return letter{s.seal(t, text), text}
}

// hearsOnce looks for the text, and then that the letter is refused.
func (s *side) hearsOnce(t *testing.T, l letter) {
	t.Helper()
	s.hears(t, l.m, l.text)
	s.hearsNoMore(t, l)
}

// hearsNoMore looks that what was opened is old while its ratchet key is Peer, and that it is refused behind that.
func (s *side) hearsNoMore(t *testing.T, l letter) {
	t.Helper()
	r, text, err := ratchet.Open(s.r, l.m, s.next())
	if err == api.OK || text != "" || !alike(r, api.Ratchet{}) || l.m.Header.Key == s.r.Peer && err != api.ErrOld {
		t.Errorf("%q again: %v, %q, %d", l.text, r, text, err)
	}
}

// P17.5: what the first one seals the second one opens, in each order of four, each once; and the other way about.
func TestOrdersOfOneChain(t *testing.T) {
	for turn := range 2 {
		a, b := two(t, 10)
		if turn == 1 {
			a, b = b, a
		}
		var list []letter
		for i := range 4 {
			list = append(list, a.say(t, fmt.Sprint("letter ", i)))
		}
		was := *b
		orders(4, func(order []int) {
			*b = was
			for i, at := range order {
				b.hearsOnce(t, list[at])
				for _, earlier := range order[:i] {
					b.hearsNoMore(t, list[earlier])
				}
			}
			if len(b.r.Skipped) != 0 || b.r.Received != 4 {
				t.Errorf("in the order %v: %v", order, b.r)
			}
		})
	}
}

// P17.5: letters of three chains, with turns between, in each order: each is opened once.
func TestOrdersOfThreeChains(t *testing.T) {
	a, b := two(t, 11)
	var list []letter
	for chain := range 3 {
		a.hears(t, b.seal(t, "turn"), "turn")
		first := a.say(t, fmt.Sprint("first of ", chain))
		if chain < 2 {
			list = append(list, a.say(t, fmt.Sprint("late of ", chain)))
			b.hears(t, first.m, first.text)
			continue
		}
		list = append(list, first, a.say(t, "second of 2"), a.say(t, "third of 2"))
	}
	was := *b
	orders(5, func(order []int) {
		*b = was
		for i, at := range order {
			b.hearsOnce(t, list[at])
			b.hearsNoMore(t, list[order[i/2]])
		}
		if len(b.r.Skipped) != 0 {
			t.Errorf("in the order %v: %v", order, b.r.Skipped)
		}
	})
}

// P17.5: both begin at once; what crosses is opened by both, and they go on.
func TestCrossing(t *testing.T) {
	a, b := two(t, 12)
	for round := range 6 {
		x, y := a.say(t, fmt.Sprint("there ", round)), b.say(t, fmt.Sprint("back ", round))
		late := a.say(t, fmt.Sprint("late ", round))
		a.hearsOnce(t, y)
		b.hearsOnce(t, x)
		b.hearsOnce(t, late)
	}
	if len(a.r.Skipped)+len(b.r.Skipped) != 0 {
		t.Errorf("%v, %v", a.r.Skipped, b.r.Skipped)
	}
}

// P17.5: eight that are lost, over several turns, are room enough; one more is refused, and behind the one that comes late it is opened.
func TestLost(t *testing.T) {
	a, b := two(t, 13)
	var lost []letter
	for chain := range 4 {
		lost = append(lost, a.say(t, fmt.Sprint("lost ", chain)), a.say(t, fmt.Sprint("lost too ", chain)))
		l := a.say(t, fmt.Sprint("heard ", chain))
		b.hearsOnce(t, l)
		a.hears(t, b.seal(t, "turn"), "turn")
	}
	lost = append(lost, a.say(t, "one more"))
	l := a.say(t, "the last one")
	b.refuses(t, l.m, api.ErrSkip)
	b.hearsOnce(t, lost[3])
	b.hearsOnce(t, l)
	for i, x := range lost {
		if i != 3 {
			b.hearsOnce(t, x)
		}
	}
	if len(b.r.Skipped) != 0 {
		t.Errorf("%v", b.r.Skipped)
	}
}

// P17.5: what is refused changes nothing: not what is handed in, nor what is opened behind it.
func TestRefusedChangesNothing(t *testing.T) {
	a, b := two(t, 14)
	a.hears(t, b.seal(t, "ahead"), "ahead")
	list := []letter{a.say(t, "0"), a.say(t, "1"), a.say(t, "2"), a.say(t, "3")}
	b.hears(t, list[1].m, "1")
	var wrong []api.Message
	for _, l := range list {
		for at := range 4 {
			other := l.m
			switch at {
			case 0:
				other.Body[20] ^= 1
			case 1:
				other.Header.Key[3] ^= 1
			case 2:
				other.Header.Number += 9
			case 3:
				other.Header.Key = api.Key{1}
			}
			wrong = append(wrong, other)
		}
	}
	for _, l := range []letter{list[3], list[0], list[2]} {
		was := copyOf(b.r)
		for _, m := range wrong {
			if _, err := b.open(m); err == api.OK || !alike(b.r, was) {
				t.Errorf("a wrong one: %d, %v, not %v", err, b.r, was)
			}
		}
		b.hearsOnce(t, l)
	}
}

// P17.5: nobody else opens what is sealed for the other one: not who sealed it, nor others that begin.
func TestOthersDoNotOpen(t *testing.T) {
	a, b := two(t, 15)
	c, d := two(t, 16)
	for _, l := range []letter{a.say(t, "mine"), b.say(t, "yours")} {
		for _, s := range []*side{c, d} {
			s.refuses(t, l.m, api.ErrAuth)
		}
	}
	a.refuses(t, a.seal(t, "to oneself"), api.ErrAuth)
	b.refuses(t, b.seal(t, "to oneself"), api.ErrAuth)
}

// journey is one way of a drawn conversation: what is under way, what was heard.
type journey struct {
	from, to    *side
	under, done []letter
}

// arrive lets a drawn letter arrive; it is opened, or it is refused as there is no room, and is under way still.
func (j *journey) arrive(t *testing.T, d *rand.Rand) {
	t.Helper()
	at := d.Intn(len(j.under))
	l := j.under[at]
	was := copyOf(j.to.r)
	text, err := j.to.open(l.m)
	switch {
	case err == api.ErrSkip && errorOf(was, l.m.Header) == api.ErrSkip:
		if !alike(j.to.r, was) {
			t.Errorf("refused, but changed: %v, not %v", j.to.r, was)
		}
	case err != api.OK || text != l.text:
		t.Fatalf("%q: %q, %d", l.text, text, err)
	default:
		j.under = slices.Delete(j.under, at, at+1)
		j.done = append(j.done, l)
	}
}

// stored lets a side be put, and got again.
func (s *side) stored(t *testing.T) {
	t.Helper()
	b, err := ratchet.Put(s.r)
	r, wrong := ratchet.Get(b)
	if err != api.OK || wrong != api.OK || !alike(r, s.r) || !ratchet.Same(r, s.r) {
		t.Fatalf("Put: %d, Get: %d, %v, not %v", err, wrong, r, s.r)
	}
	s.r = r
}

// P17.5: drawn conversations: letters of both sides in whatever order, some lost, some again, over many turns; the ratchets put and got meanwhile.
func TestDrawnConversations(t *testing.T) {
	d := rand.New(rand.NewSource(21))
	for n := range 12 {
		a, b := two(t, 20+n)
		ways := []*journey{{from: a, to: b}, {from: b, to: a}}
		lost := 0
		for step := range 120 {
			j := ways[d.Intn(2)]
			switch x := d.Intn(20); {
			case x < 8 && len(j.under) < 5:
				j.under = append(j.under, j.from.say(t, fmt.Sprint("letter ", step)))
			case x < 16 && len(j.under) > 0:
				j.arrive(t, d)
			case x < 17 && len(j.under) > 0 && lost < 3:
				j.under = j.under[1:]
				lost++
			case x < 19 && len(j.done) > 0:
				j.to.hearsNoMore(t, j.done[d.Intn(len(j.done))])
			default:
				j.to.stored(t)
			}
		}
		for _, j := range ways {
			if len(j.done) < 10 {
				t.Errorf("conversation %d: only %d letters were heard", n, len(j.done))
			}
			for _, l := range j.done {
				j.to.hearsNoMore(t, l)
			}
		}
		if a.r.Before+b.r.Before == 0 {
			t.Errorf("conversation %d: nobody turned", n)
		}
	}
}

// P17.5: when all that was under way has come, nothing is passed over any more.
func TestAllHeard(t *testing.T) {
	d := rand.New(rand.NewSource(22))
	for n := range 10 {
		a, b := two(t, 40+n)
		for _, j := range []*journey{{from: a, to: b}, {from: b, to: a}, {from: a, to: b}, {from: b, to: a}} {
			for i := range 1 + d.Intn(8) {
				j.under = append(j.under, j.from.say(t, fmt.Sprint("letter ", i)))
			}
			for len(j.under) > 0 {
				j.arrive(t, d)
			}
			if len(j.to.r.Skipped) != 0 {
				t.Errorf("conversation %d: %v", n, j.to.r.Skipped)
			}
		}
	}
}

// P17.5: Sent goes up to 2^31, and Received with it; the chain is at its end then, and a turn begins another one.
func TestLongChain(t *testing.T) {
	a, b := two(t, 60)
	b.hears(t, a.seal(t, "0"), "0")
	a.r.Sent, b.r.Received = bound-2, bound-2
	one, last := a.say(t, "the last but one"), a.say(t, "the last one")
	if _, _, err := ratchet.Seal(a.r, "one more"); err != api.ErrLong {
		t.Errorf("one more: %d", err)
	}
	b.hearsOnce(t, last)
	b.hearsOnce(t, one)
	if b.r.Received != bound || ratchet.Check(b.r) != api.OK || ratchet.Check(a.r) != api.OK {
		t.Errorf("%v", b.r)
	}
	a.hears(t, b.seal(t, "turn"), "turn")
	if a.r.Before != bound || a.r.Sent != 0 {
		t.Errorf("%v", a.r)
	}
	a.stored(t)
	b.stored(t)
	b.hearsOnce(t, a.say(t, "the first one of another chain"))
}
