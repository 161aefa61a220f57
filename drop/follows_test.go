package drop_test

import (
	"bytes"
	"math/rand"
	"slices"
	"testing"

	"hollowtree/api"
	"hollowtree/curve"
	"hollowtree/dice"
	"hollowtree/drop"
	"hollowtree/ident"
	"hollowtree/sched"
)

// drawnBatches are of many sizes and shapes.
func drawnBatches(seed int64) [][][]byte {
	r := rand.New(rand.NewSource(seed))
	var out [][][]byte
	for range 200 {
		out = append(out, drawnBatch(r, r.Intn(50), 1+r.Intn(50)))
	}
	return out
}

// P20.3: who is the partner of another one has that one for a partner, and nobody is its own.
func TestOwnInverse(t *testing.T) {
	for _, l := range drawnBatches(3) {
		partners := drop.Partners(l)
		for i, p := range partners {
			if p == nowhere {
				continue
			}
			if p < 0 || p >= len(l) || p == i || partners[p] != i {
				t.Errorf("the partner of %d is %d: %v", i, p, partners)
			}
		}
	}
}

// P20.3: in another order each has the same reply, and the partner that it had.
func TestAnotherOrder(t *testing.T) {
	r := rand.New(rand.NewSource(4))
	for _, l := range drawnBatches(5) {
		replies, partners := drop.Swap(l), drop.Partners(l)
		order := r.Perm(len(l))
		place := make([]int, len(l))
		var turned, want [][]byte
		for i, from := range order {
			turned, want = append(turned, l[from]), append(want, replies[from])
			place[from] = i
		}
		swaps(t, turned, want)
		for i, p := range drop.Partners(turned) {
			if was := partners[order[i]]; was == nowhere && p != nowhere || was != nowhere && p != place[was] {
				t.Errorf("the partner of %d is %d", i, p)
			}
		}
		if counts(turned) != counts(l) {
			t.Errorf("Counts: %v, then %v", counts(l), counts(turned))
		}
	}
}

// P20.3: all orders of a batch with twos, threes and others.
func TestAllOrders(t *testing.T) {
	l := batchIn(1, 2, 1, 3, 3, 3, -146)
	replies := drop.Swap(l)
	turned, want := slices.Clone(l), slices.Clone(replies)
	var turn func(n int)
	turn = func(n int) {
		if n == len(l) {
			swaps(t, turned, want)
			return
		}
		for i := n; i < len(l); i++ {
			turned[n], turned[i], want[n], want[i] = turned[i], turned[n], want[i], want[n]
			turn(n + 1)
			turned[n], turned[i], want[n], want[i] = turned[i], turned[n], want[i], want[n]
		}
	}
	turn(0)
}

// P20.3: all replies have one length, and there are as many as the batch has.
func TestOneLength(t *testing.T) {
	for _, l := range drawnBatches(6) {
		replies := drop.Swap(l)
		if len(replies) != len(l) {
			t.Errorf("%d replies to %d", len(replies), len(l))
		}
		for i, b := range replies {
			if len(b) != 130 || len(b) != len(sched.Empty()) {
				t.Errorf("the reply %d has %d bytes", i, len(b))
			}
		}
	}
}

// P20.3: swapped once more, with the replies as bodies in the same hollows, each gets back what was its own, if it had a partner; and nothing, if it had none.
func TestOnceMore(t *testing.T) {
	for _, l := range drawnBatches(7) {
		again := copyOf(l)
		for i, reply := range drop.Swap(l) {
			if len(l[i]) == 146 {
				again[i] = laid(l[i][:16], reply)
			}
		}
		partners := drop.Partners(l)
		for i, b := range drop.Swap(again) {
			want := noughts()
			if partners[i] != nowhere {
				want = l[i][16:]
			}
			if !bytes.Equal(b, want) {
				t.Errorf("once more %d gets %x, not %x", i, b, want)
			}
		}
		if !slices.Equal(drop.Partners(again), partners) {
			t.Errorf("Partners: %v, then %v", partners, drop.Partners(again))
		}
	}
}

// P20.3: Counts' numbers, the second one doubled, are at most how many there are; and the second one says how many have a partner.
func TestSums(t *testing.T) {
	for _, l := range drawnBatches(8) {
		c := counts(l)
		if sum := c[0] + 2*c[1] + c[2]; sum > len(l) || min(c[0], c[1], c[2]) < 0 {
			t.Errorf("Counts of %d: %v", len(l), c)
		}
		paired := 0
		for _, p := range drop.Partners(l) {
			if p != nowhere {
				paired++
			}
		}
		if paired != 2*c[1] {
			t.Errorf("%d have a partner; Counts: %v", paired, c)
		}
	}
	for _, l := range [][][]byte{crowd(7), crowd(0, 7), crowd(3, 4)} {
		if c := counts(l); c[0]+2*c[1]+c[2] != len(l) {
			t.Errorf("Counts of %d: %v", len(l), c)
		}
	}
}

// P20.3: two people who make theirs real in one round read each other's out of what is swapped, and covers nobody's.
func TestTwoPeople(t *testing.T) {
	alice, bob := api.Key{9}, api.Key{77}
	hers, err := ident.Pair(alice, curve.Public(bob))
	his, other := ident.Pair(bob, curve.Public(alice))
	if err != api.OK || other != api.OK {
		t.Fatalf("Pair: %d, %d", err, other)
	}
	d := dice.New([]byte("covers"))
	for round := uint64(1); round <= 40; round++ {
		says, answers := api.Envelope{Kind: api.EnvelopeText, Seq: uint32(round)}, api.Envelope{Ack: uint32(round)}
		one, _ := sched.Real(hers, round, says)
		two, _ := sched.Real(his, round, answers)
		cover, _ := sched.Cover(d)
		l := [][]byte{sched.Payload(cover), sched.Payload(one), sched.Payload(two)}
		pairs(t, l, nowhere, 2, 1)
		replies := drop.Swap(l)
		if e, err := sched.Read(hers, round, replies[1]); err != api.OK || e != answers {
			t.Errorf("round %d: %v, %d", round, e, err)
		}
		if e, err := sched.Read(his, round, replies[2]); err != api.OK || e != says {
			t.Errorf("round %d: %v, %d", round, e, err)
		}
		if _, err := sched.Read(his, round, replies[0]); err != api.ErrNobody {
			t.Errorf("round %d: %d", round, err)
		}
	}
}
