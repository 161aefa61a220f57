package onion_test

import (
	"bytes"
	"fmt"
	"math/rand"
	"slices"
	"testing"

	"hollowtree/api"
	"hollowtree/frame"
	"hollowtree/onion"
)

// journey is what one drawn onion needs: who it is for, by which one-time secrets, in which round.
type journey struct {
	round          uint64
	secrets, onces []api.Key
	payload        []byte
}

func drawnBytes(r *rand.Rand, n int) []byte {
	b := make([]byte, n)
	r.Read(b)
	return b
}

func drawnJourney(r *rand.Rand, n int) journey {
	j := journey{round: r.Uint64(), payload: drawnBytes(r, r.Intn(300))}
	for range n {
		j.secrets = append(j.secrets, api.Key(drawnBytes(r, 32)))
		j.onces = append(j.onces, api.Key(drawnBytes(r, 32)))
	}
	return j
}

func (j journey) build(t *testing.T) ([]byte, []api.Key) {
	t.Helper()
	return builds(t, j.round, publics(j.secrets), j.onces, j.payload)
}

// P15.4: built and peeled by each server, in order, it is the payload, and the shares are those that were told; twice the same (R5).
func TestThere(t *testing.T) {
	r := rand.New(rand.NewSource(15))
	for i := range 60 {
		j := drawnJourney(r, i%4)
		b, shares := j.build(t)
		again, _ := j.build(t)
		if !bytes.Equal(b, again) {
			t.Errorf("built twice: % x, then % x", b, again)
		}
		for at, secret := range j.secrets {
			within, share, err := onion.Peel(j.round, secret, b)
			if err != api.OK || share != shares[at] {
				t.Fatalf("server %d of %d: %x, %d; not %x", at, len(shares), share, err, shares[at])
			}
			b = within
		}
		if !bytes.Equal(b, j.payload) {
			t.Errorf("behind %d servers: % x, not % x", len(shares), b, j.payload)
		}
	}
}

// P15.4: wrapped by the servers, with the shares that they peeled, from the last one to the first one, it is unwrapped as it was.
func TestBack(t *testing.T) {
	r := rand.New(rand.NewSource(16))
	for i := range 60 {
		j := drawnJourney(r, i%4)
		b, shares := j.build(t)
		var peeled []api.Key
		for _, secret := range j.secrets {
			within, share, _ := onion.Peel(j.round, secret, b)
			b, peeled = within, append(peeled, share)
		}
		was := drawnBytes(r, r.Intn(300))
		reply := was
		for _, share := range slices.Backward(peeled) {
			reply = onion.Wrap(j.round, share, reply)
		}
		if len(reply) != len(was)+16*len(shares) {
			t.Errorf("%d bytes, wrapped by %d: %d", len(was), len(shares), len(reply))
		}
		unwraps(t, "a reply", j.round, shares, reply, was)
	}
}

// P15.4: peeled in no other round, and by no other secret.
func TestNoOther(t *testing.T) {
	r := rand.New(rand.NewSource(17))
	for range 30 {
		j := drawnJourney(r, 1+r.Intn(3))
		b, _ := j.build(t)
		for at, secret := range j.secrets {
			for _, round := range []uint64{j.round + 1, j.round - 1, 0, 1<<64 - 1, r.Uint64(), j.round ^ 1<<r.Intn(64)} {
				if round != j.round {
					peelsNot(t, "another round", round, secret, b, api.ErrAuth)
				}
			}
			for _, other := range append(drawnJourney(r, 3).secrets, j.onces[at]) {
				peelsNot(t, "another secret", j.round, other, b, api.ErrAuth)
			}
			b, _, _ = onion.Peel(j.round, secret, b)
		}
	}
}

// P15.4: changed by one byte, wherever on its way, it is refused by the next server; but for the bit of a key that counts for nothing (3), by which P15.2 has it peeled.
func TestChangedOnTheWay(t *testing.T) {
	r := rand.New(rand.NewSource(18))
	for range 30 {
		j := drawnJourney(r, 1+r.Intn(3))
		b, shares := j.build(t)
		for i, secret := range j.secrets {
			within, _, _ := onion.Peel(j.round, secret, b)
			for range 20 {
				at, by := r.Intn(len(b)), byte(1+r.Intn(255))
				other := bytes.Clone(b)
				other[at] ^= by
				if at == keyTop && by == 0x80 {
					peels(t, "the key's highest bit", j.round, secret, other, within, shares[i])
				} else {
					peelsNot(t, fmt.Sprintf("byte %d by %x", at, by), j.round, secret, other, api.ErrAuth)
				}
			}
			b = within
		}
	}
}

// P15.4: a layer that is changed within is peeled by those ahead, and refused by its own server.
func TestChangedWithin(t *testing.T) {
	s, o := secrets(3), onces(3)
	hops := publics(s)
	for m := 1; m < 3; m++ {
		within := onionOf(7, hops[m:], o[m:], text(9, 146))
		for at := 0; at < len(within); at += 7 {
			other := bytes.Clone(within)
			other[at] ^= 0x20
			b := onionOf(7, hops[:m], o[:m], other)
			for i := range m {
				b, _, _ = onion.Peel(7, s[i], b)
			}
			same(t, "what the servers ahead peel", b, other)
			peelsNot(t, fmt.Sprint("byte ", at, " of layer ", m), 7, s[m], b, api.ErrAuth)
		}
	}
}

// P15.4: the length hangs on the payload's and the count of hops alone; an exchange's is frame's OnionSize, a sealed envelope's reply's frame's ReplySize.
func TestLength(t *testing.T) {
	r := rand.New(rand.NewSource(19))
	for n := range 4 {
		for _, size := range sizes() {
			for range 3 {
				j := drawnJourney(r, n)
				j.payload = drawnBytes(r, size)
				if b, _ := j.build(t); len(b) != size+48*n {
					t.Errorf("%d bytes for %d servers: %d", size, n, len(b))
				}
			}
		}
		if n == 0 {
			continue
		}
		j := drawnJourney(r, n)
		j.payload = drawnBytes(r, api.ExchangeSize)
		b, shares := j.build(t)
		reply := drawnBytes(r, api.SealedSize)
		for _, share := range shares {
			reply = onion.Wrap(j.round, share, reply)
		}
		if len(b) != frame.OnionSize(n) || len(reply) != frame.ReplySize(n) {
			t.Errorf("%d servers: %d bytes there, %d back", n, len(b), len(reply))
		}
	}
}

// P15.3, P15.4: what goes there is not taken for what comes back, nor the other way about.
func TestWaysApart(t *testing.T) {
	s, hops := secrets(1)[0], publics(secrets(1))
	b, shares := builds(t, 7, hops, onces(1), text(9, 146))
	unwrapsNot(t, "an onion", 7, shares, b)
	unwrapsNot(t, "an onion without its key", 7, shares, b[32:])
	peelsNot(t, "a reply", 7, s, append(b[:32:32], onion.Wrap(7, shares[0], text(9, 146))...), api.ErrAuth)
}
