package convo_test

import (
	"fmt"
	"math"
	"testing"

	"hollowtree/api"
	"hollowtree/convo"
)

// queues holds Queue against the words.
func queues(t *testing.T, what string, c api.Convo, b body) {
	t.Helper()
	d, n, err := convo.Queue(c, b)
	want, number, no := queueOf(c, b)
	if err != no || n != number || !alike(d, want) {
		t.Errorf("%s: Queue: %v, %d, %d; not %v, %d, %d", what, brief(d), n, err, brief(want), number, no)
	}
	if err == api.OK && convo.Check(d) != api.OK {
		t.Errorf("%s: Queue: %v may not be", what, brief(d))
	}
}

// turns holds Turn against the words.
func turns(t *testing.T, what string, c api.Convo) {
	t.Helper()
	d, o, err := convo.Turn(c)
	want, out, no := turnOf(c)
	if err != no || o != out || !alike(d, want) {
		t.Errorf("%s: Turn: %v, %v, %d; not %v, %v, %d", what, brief(d), o, err, brief(want), out, no)
	}
	if err == api.OK && convo.Check(d) != api.OK {
		t.Errorf("%s: Turn: %v may not be", what, brief(d))
	}
}

// acks holds Acked against the words.
func acks(t *testing.T, what string, c api.Convo, n uint32) {
	t.Helper()
	d, gone, err := convo.Acked(c, n)
	want, number, no := ackedOf(c, n)
	if err != no || gone != number || !alike(d, want) {
		t.Errorf("%s: Acked(%d): %v, %d, %d; not %v, %d, %d", what, n, brief(d), gone, err, brief(want), number, no)
	}
	if err == api.OK && convo.Check(d) != api.OK {
		t.Errorf("%s: Acked(%d): %v may not be", what, n, brief(d))
	}
}

// P18.2: the number is Next, the message is behind the others, nothing else changes.
func TestQueue(t *testing.T) {
	for out := range 4 {
		c := made(9, out, max(out-1, 0), 5, 6, 8)
		d, n, err := convo.Queue(c, bodyNo(77))
		want := made(10, out+1, max(out-1, 0), 5, 6, 8)
		want.Out[out].Body = bodyNo(77)
		if n != 9 || err != api.OK || !alike(d, want) {
			t.Errorf("%d in Out: %v, %d, %d", out, brief(d), n, err)
		}
	}
	for _, b := range []body{{}, bodyNo(1), {104: 1}, {0: 1}} {
		queues(t, "one", made(3, 2, 1, 0), b)
	}
}

// P18.2: MaxOut in Out, and Next of 2^31, are full; one less of each is not.
func TestQueueFull(t *testing.T) {
	for _, c := range []api.Convo{made(4, 4, 0, 0), made(9, 4, 3, 5, 6), made(bound, 0, 0, 0), made(bound, 3, 2, 0), made(bound, 4, 0, 0)} {
		if d, n, err := convo.Queue(c, bodyNo(1)); err != api.ErrFull || n != 0 || !nothing(d) {
			t.Errorf("%v: %v, %d, %d", brief(c), brief(d), n, err)
		}
	}
	for _, c := range []api.Convo{made(3, 3, 0, 0), made(9, 3, 2, 5, 6), made(bound-1, 0, 0, 0), made(bound-1, 3, 2, 0)} {
		if d, n, err := convo.Queue(c, bodyNo(1)); err != api.OK || n != c.Next || d.Next != c.Next+1 || len(d.Out) != len(c.Out)+1 {
			t.Errorf("%v: %v, %d, %d", brief(c), brief(d), n, err)
		}
	}
}

// P18.2: none has no turn; of one it is always that one's; of several it goes round and round.
func TestTurn(t *testing.T) {
	for _, next := range []uint32{0, 1, 9, bound} {
		if d, o, err := convo.Turn(made(next, 0, 0, 3, 4)); err != api.ErrNone || o != (api.Out{}) || !nothing(d) {
			t.Errorf("Next %d, none: %v, %v, %d", next, brief(d), o, err)
		}
	}
	for n := 1; n <= 4; n++ {
		for from := range n {
			c := made(9, n, from, 3, 4)
			for i := range 3 * n {
				at := (from + i) % n
				d, o, err := convo.Turn(c)
				seq := uint32(9 - n + at)
				if o != (api.Out{Seq: seq, Body: bodyNo(seq)}) || err != api.OK || !alike(d, made(9, n, (at+1)%n, 3, 4)) {
					t.Errorf("%d from %d, turn %d: %v, %v, %d", n, from, i, brief(d), o, err)
				}
				c = d
			}
		}
	}
}

// P18.3: an ack of each number, with Turn ahead of, at and behind what goes.
func TestAcked(t *testing.T) {
	for out := range 5 {
		for turn := range max(out, 1) {
			c := made(20, out, turn, 3, 4)
			for n := uint32(0); n <= 20; n++ {
				gone := max(0, int(n)-(20-out))
				d, got, err := convo.Acked(c, n)
				if got != gone || err != api.OK || !alike(d, made(20, out-gone, max(0, turn-gone), 3, 4)) {
					t.Errorf("%d in Out, Turn %d, Acked(%d): %v, %d, %d", out, turn, n, brief(d), got, err)
				}
			}
		}
	}
}

// P18.3: what was never sent is not acked.
func TestAckedBeyond(t *testing.T) {
	for _, c := range []api.Convo{{}, made(20, 0, 0, 0), made(20, 3, 1, 50, 51), made(20, 4, 0, 0), made(bound, 4, 3, 0), made(bound, 0, 0, 0)} {
		acks(t, "of Next", c, c.Next)
		for _, n := range []uint32{c.Next + 1, c.Next + 2, c.Next + 4, c.Next + 9, math.MaxUint32} {
			if d, gone, err := convo.Acked(c, n); err != api.ErrAck || gone != 0 || !nothing(d) {
				t.Errorf("Next %d, Acked(%d): %v, %d, %d", c.Next, n, brief(d), gone, err)
			}
		}
	}
}

// P18.3: an n that is not above what is acked changes nothing.
func TestAckedOld(t *testing.T) {
	some(numbers, func(c api.Convo) {
		from := c.Next - uint32(len(c.Out))
		for _, n := range []uint32{0, from / 2, max(from, 1) - 1, from} {
			if d, gone, err := convo.Acked(c, n); err != api.OK || gone != 0 || !alike(d, c) {
				t.Errorf("%v: Acked(%d): %v, %d, %d", brief(c), n, brief(d), gone, err)
			}
		}
	})
}

// P18.2, P18.3: ErrConvo ahead of all else.
func TestSayWrong(t *testing.T) {
	for _, w := range wrongs() {
		if d, n, err := convo.Queue(w.c, bodyNo(1)); err != api.ErrConvo || n != 0 || !nothing(d) {
			t.Errorf("%s: Queue: %v, %d, %d", w.what, brief(d), n, err)
		}
		if d, o, err := convo.Turn(w.c); err != api.ErrConvo || o != (api.Out{}) || !nothing(d) {
			t.Errorf("%s: Turn: %v, %v, %d", w.what, brief(d), o, err)
		}
		for _, n := range []uint32{0, w.c.Next - 1, w.c.Next, w.c.Next + 1, math.MaxUint32} {
			if d, gone, err := convo.Acked(w.c, n); err != api.ErrConvo || gone != 0 || !nothing(d) {
				t.Errorf("%s: Acked(%d): %v, %d, %d", w.what, n, brief(d), gone, err)
			}
		}
	}
}

// P18.2, P18.3: of some conversations, all of them.
func TestSaySome(t *testing.T) {
	some(numbers, func(c api.Convo) {
		what := fmt.Sprint(c.Next, len(c.Out), c.Turn)
		queues(t, what, c, bodyNo(c.Delivered))
		turns(t, what, c)
		for i := range uint32(7) {
			acks(t, what, c, c.Next-uint32(len(c.Out))+i-1)
		}
	})
}
