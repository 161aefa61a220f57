package sched_test

import (
	"fmt"
	"math/rand"
	"testing"

	"hollowtree/api"
	"hollowtree/curve"
	"hollowtree/dice"
	"hollowtree/frame"
	"hollowtree/ident"
	"hollowtree/sched"
)

// drawnKey is a secret.
func drawnKey(r *rand.Rand) api.Key {
	var k api.Key
	r.Read(k[:])
	return k
}

// meet are both sides of a pair of drawn secrets, as ident makes them.
func meet(t *testing.T, r *rand.Rand) (p, q api.Pair) {
	t.Helper()
	a, b := drawnKey(r), drawnKey(r)
	p, err := ident.Pair(a, curve.Public(b))
	q, other := ident.Pair(b, curve.Public(a))
	if err != api.OK || other != api.OK {
		t.Fatalf("Pair: %d, %d", err, other)
	}
	return p, q
}

// drawnRound is a round, near the beginning as often as not.
func drawnRound(r *rand.Rand) uint64 {
	if r.Intn(2) == 0 {
		return 1 + uint64(r.Intn(20))
	}
	return r.Uint64() | 1
}

// P19.3: what one of a pair makes real the other one reads in that round, as it was.
func TestOtherReads(t *testing.T) {
	r := rand.New(rand.NewSource(5))
	for range 30 {
		p, q := meet(t, r)
		for range 30 {
			round := drawnRound(r)
			one, other := drawnEnvelope(r), drawnEnvelope(r)
			x, y := makes(t, p, round, one), makes(t, q, round, other)
			reads(t, q, round, x.Body[:], one)
			reads(t, p, round, y.Body[:], other)
		}
	}
}

// P19.3: the same, as their payloads are swapped.
func TestSwapped(t *testing.T) {
	r := rand.New(rand.NewSource(6))
	p, q := meet(t, r)
	for range 100 {
		round := drawnRound(r)
		one, other := drawnEnvelope(r), drawnEnvelope(r)
		b, c := sched.Payload(makes(t, p, round, one)), sched.Payload(makes(t, q, round, other))
		reads(t, q, round, b[16:], one)
		reads(t, p, round, c[16:], other)
		x, err := frame.GetExchange(b)
		if want, _ := sched.Real(p, round, one); err != api.OK || x != want {
			t.Errorf("GetExchange of a payload: %x, %d", x, err)
		}
	}
}

// P19.3: one's own is not read.
func TestOwnIsNotRead(t *testing.T) {
	r := rand.New(rand.NewSource(7))
	for range 20 {
		p, q := meet(t, r)
		for _, side := range []api.Pair{p, q} {
			for range 30 {
				round := drawnRound(r)
				x := makes(t, side, round, drawnEnvelope(r))
				readsNot(t, "one's own", side, round, x.Body[:], api.ErrAuth)
			}
		}
	}
}

// P19.3: one of another round is not read: one that is near, far, or unlike in a bit.
func TestOtherRoundIsNotRead(t *testing.T) {
	r := rand.New(rand.NewSource(8))
	p, q := meet(t, r)
	for range 20 {
		round := drawnRound(r) + 1<<40
		x := makes(t, p, round, drawnEnvelope(r))
		others := []uint64{round - 1, round + 1, 1, r.Uint64() | 1<<63}
		for bit := range 64 {
			others = append(others, round^1<<bit)
		}
		for _, other := range others {
			if other == round {
				continue
			}
			readsNot(t, fmt.Sprint("one of ", round), q, other, x.Body[:], api.ErrAuth)
			readsNot(t, fmt.Sprint("one's own of ", round), p, other, x.Body[:], api.ErrAuth)
		}
	}
}

// P19.3: nobody else reads it.
func TestThirdReadsNot(t *testing.T) {
	r := rand.New(rand.NewSource(9))
	for range 10 {
		p, _ := meet(t, r)
		u, v := meet(t, r)
		round := drawnRound(r)
		x := makes(t, p, round, drawnEnvelope(r))
		readsNot(t, "a stranger's", u, round, x.Body[:], api.ErrAuth)
		readsNot(t, "a stranger's", v, round, x.Body[:], api.ErrAuth)
	}
}

// P19.3: both make theirs for one hollow, in each round another one, and each pair for its own.
func TestOneHollow(t *testing.T) {
	r := rand.New(rand.NewSource(10))
	seen := map[api.Drop]int{}
	for range 10 {
		p, q := meet(t, r)
		for round := uint64(1); round <= 30; round++ {
			x, y := makes(t, p, round, drawnEnvelope(r)), makes(t, q, round, drawnEnvelope(r))
			if x.Drop != y.Drop {
				t.Errorf("round %d: %x and %x", round, x.Drop, y.Drop)
			}
			seen[x.Drop]++
		}
	}
	if len(seen) != 300 {
		t.Errorf("%d hollows", len(seen))
	}
}

// P19.3: all exchanges have one size, covers among them, whatever is said.
func TestOneSize(t *testing.T) {
	r := rand.New(rand.NewSource(11))
	p, q := meet(t, r)
	d := dice.New([]byte("size"))
	for range 200 {
		cover, err := sched.Cover(d)
		if err != api.OK {
			t.Fatalf("Cover: %d", err)
		}
		round := drawnRound(r)
		idle, text := api.Envelope{Ack: r.Uint32()}, api.Envelope{Kind: 1, Body: known()}
		for _, x := range []api.Exchange{cover, makes(t, p, round, idle), makes(t, q, round, text), makes(t, p, round, drawnEnvelope(r))} {
			if n := len(sched.Payload(x)); n != api.ExchangeSize {
				t.Errorf("%d bytes", n)
			}
		}
	}
}
