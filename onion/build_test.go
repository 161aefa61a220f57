package onion_test

import (
	"bytes"
	"crypto/sha256"
	"encoding/hex"
	"math"
	"slices"
	"testing"

	"hollowtree/api"
	"hollowtree/curve"
	"hollowtree/onion"
)

// P15.1: shares and onions that another program made by the chapter's words; of longer ones their SHA-256.
func TestKnownOnions(t *testing.T) {
	known := []string{
		"2ee5c0df1e1e1478b5d0cf3376caba681e8ad6f5ada72bea8ccce46d7f6cc152",
		"7797c81bc86500868c77680b435357a647b042648bc09982d2e0ec4387d47a69",
		"638041ca9e152d62a9b8a23da0fbed6a418625a318f64b80bf98c166b91fdc4c",
	}
	for _, x := range []struct {
		round   uint64
		n, size int
		want    string
	}{
		{7, 1, 0, "e8a44ba39760696e93580567b7f612fdb4a92e99878b5619c53c26b24a294346be5918c996d5d0f2d17cf0363405d006"},
		{7, 1, 5, "e8a44ba39760696e93580567b7f612fdb4a92e99878b5619c53c26b24a29434605e4fe78b9129731d2ac90d02b1c7e1ef95a5671d8"},
		{7, 1, 146, "d329afe1b37133d45d315c7838e79b9846c6f750258c082d66067689031ca4b9"},
		{7, 2, 5, "e8a44ba39760696e93580567b7f612fdb4a92e99878b5619c53c26b24a29434676b31bb9a5b9752ee2d17315ca5157dfb009f86c343571ec7b472f9f4c14e45283c8cc4bc670a88e3b7cf70edd0e4f84570350ef656201e1528d7215aeedd8ffd0a7849050"},
		{7, 2, 146, "74682e6e5669de44ed2a13012c27f7c7cba414fbcaa367a4c757436344710ffd"},
		{7, 3, 5, "bef31d9e9cf57b92feeef275c8dd6a8c7681305d8be7bca24180e190f1fa7dbe"},
		{7, 3, 146, "6077a6a0254badab4f1380e80d06a97240467fe1b25c5b68154a49378b614142"},
		{0x0807060504030201, 1, 0, "e8a44ba39760696e93580567b7f612fdb4a92e99878b5619c53c26b24a294346de4b9c959f4b44b8bcd1a4fd82dab051"},
		{0x0807060504030201, 1, 146, "ae6f1c3ae8555c2d9f3da94c54db2b9a3a943ef46d8d446d4eb02203a247704b"},
		{0x0807060504030201, 2, 146, "78407c9975843109d8340ccba1937dc6344d53abbc9725b23b087026268e32cf"},
		{0x0807060504030201, 3, 5, "e604f032078bdf677c7baab2a5931f3ef0178f6c1a738a685061f76e7b0b28df"},
		{0x0807060504030201, 3, 146, "2999d20f903dc57b51530f2441f5f032f03e28332f80089693e8e737a31de3ad"},
	} {
		b, shares, err := onion.Build(x.round, publics(secrets(x.n)), onces(x.n), text(9, x.size))
		got := hex.EncodeToString(b)
		if len(x.want) == 64 {
			sum := sha256.Sum256(b)
			got = hex.EncodeToString(sum[:])
		}
		if err != api.OK || got != x.want || len(shares) != x.n {
			t.Errorf("round %d, %d hops, %d bytes: %s, %d shares, %d; not %s", x.round, x.n, x.size, got, len(shares), err, x.want)
		}
		for i, share := range shares {
			if hex.EncodeToString(share[:]) != known[i] {
				t.Errorf("share %d of %d hops: %x", i, x.n, share)
			}
		}
	}
}

// P15.1: no hops to MaxHops, payloads of all sizes, each layer byte for byte, the shares in the order of the hops.
func TestBuild(t *testing.T) {
	for n := range api.MaxHops + 1 {
		hops := publics(secrets(n))
		for _, size := range sizes() {
			b, shares := builds(t, 7, hops, onces(n), text(9, size))
			if len(b) != size+48*n || len(shares) != n {
				t.Errorf("%d hops, %d bytes: %d bytes, %d shares", n, size, len(b), len(shares))
			}
		}
		builds(t, 7, hops, onces(n), nil)
		builds(t, 7, hops, onces(n), []byte{})
		builds(t, 7, hops, onces(n), times(146, 0))
		for _, round := range rounds() {
			builds(t, round, hops, onces(n), text(9, 146))
		}
	}
}

// P15.1: many bytes.
func TestBuildMany(t *testing.T) {
	for n := range api.MaxHops + 1 {
		builds(t, 7, publics(secrets(n)), onces(n), text(9, 70001))
	}
}

// P15.1: the layers as they are laid, from the last server's to the first one's, each by itself.
func TestLayers(t *testing.T) {
	payload := text(9, api.ExchangeSize)
	s, o := secrets(3), onces(3)
	hops := publics(s)
	b, shares := builds(t, 7, hops, o, payload)
	third := layerOf(7, o[2], hops[2], payload)
	second := layerOf(7, o[1], hops[1], third)
	if first := layerOf(7, o[0], hops[0], second); !bytes.Equal(b, first) {
		t.Errorf("% x, not % x", b, first)
	}
	for i, within := range [][]byte{second, third, payload} {
		peels(t, "a layer", 7, s[i], b, within, shares[i])
		b = within
	}
}

// P15.1: hops and one-time secrets in another order make another onion, and shares in that order.
func TestOrderCounts(t *testing.T) {
	hops, o, payload := publics(secrets(3)), onces(3), text(9, 20)
	was, _ := builds(t, 7, hops, o, payload)
	for _, order := range [][]int{{0, 2, 1}, {1, 0, 2}, {1, 2, 0}, {2, 0, 1}, {2, 1, 0}} {
		h, s := make([]api.Key, 3), make([]api.Key, 3)
		for i, at := range order {
			h[i], s[i] = hops[at], o[at]
		}
		for _, b := range [][]byte{first(builds(t, 7, h, s, payload)), first(builds(t, 7, h, o, payload)), first(builds(t, 7, hops, s, payload))} {
			if bytes.Equal(b, was) {
				t.Errorf("the order %v makes no other onion", order)
			}
		}
	}
}

func first(b []byte, _ []api.Key) []byte { return b }

// P15.1: of no hops it is the payload, without shares, whichever list is nil.
func TestBuildNoHops(t *testing.T) {
	nothings := [][]api.Key{nil, {}, onces(2)[2:]}
	for _, hops := range nothings {
		for _, once := range nothings {
			for _, payload := range [][]byte{nil, {}, {7}, text(9, 47), text(9, 146)} {
				b, shares, err := onion.Build(7, hops, once, payload)
				if err != api.OK || !bytes.Equal(b, payload) || len(shares) != 0 {
					t.Errorf("Build of no hops: % x, %x, %d; not % x", b, shares, err, payload)
				}
			}
		}
	}
}

// P15.1: each count of hops with each count of one-time secrets.
func TestBuildCounts(t *testing.T) {
	counts := []int{0, 1, 2, 3, 4, 5, 6, 51}
	hops, o := publics(secrets(51)), onces(51)
	for _, n := range counts {
		for _, m := range counts {
			for _, payload := range [][]byte{nil, text(9, 146)} {
				if n == m && n <= 3 {
					builds(t, 7, hops[:n], o[:m], payload)
				} else {
					buildsNot(t, 7, hops[:n], o[:m], payload, api.ErrArg)
				}
			}
		}
		if n > 0 {
			buildsNot(t, 7, hops[:n], nil, text(9, 146), api.ErrArg)
			buildsNot(t, 7, nil, o[:n], text(9, 146), api.ErrArg)
		}
	}
}

// P15.1: each low key, as each of the hops, alone and with others.
func TestBuildLow(t *testing.T) {
	lows := lowKeys()
	if len(lows) != 14 {
		t.Fatalf("%d low keys", len(lows))
	}
	for _, low := range lows {
		for n := 1; n <= 3; n++ {
			for at := range n {
				hops := publics(secrets(n))
				hops[at] = low
				buildsNot(t, 7, hops, onces(n), text(9, 146), api.ErrLow)
				hops[n-1] = low
				buildsNot(t, math.MaxUint64, hops, onces(n), nil, api.ErrLow)
			}
		}
	}
}

// P15.1, R2: of several wrong things ErrArg goes ahead of ErrLow.
func TestBuildArgAheadOfLow(t *testing.T) {
	for _, low := range lowKeys() {
		for n := 1; n <= 5; n++ {
			for at := range n {
				hops := publics(secrets(n))
				hops[at] = low
				for m := range 7 {
					if n > 3 || n != m {
						buildsNot(t, 7, hops, onces(m), text(9, 146), api.ErrArg)
					}
				}
			}
		}
	}
}

// P15.1: keys that are nobody's public key, or are written otherwise, but are not low.
func TestBuildAnyKey(t *testing.T) {
	hop := publics(secrets(1))[0]
	high := hop
	high[31] ^= 0x80
	for _, key := range []api.Key{{2}, {9}, api.Key(times(32, 0xff)), api.Key(times(32, 1)), {31: 0x40}, high} {
		for at := range 3 {
			hops := publics(secrets(3))
			hops[at] = key
			builds(t, 7, hops, onces(3), text(9, 20))
		}
	}
	one, _ := builds(t, 7, []api.Key{hop}, onces(1), text(9, 20))
	other, _ := builds(t, 7, []api.Key{high}, onces(1), text(9, 20))
	if !bytes.Equal(one, other) {
		t.Error("the highest bit of a hop's key counts")
	}
}

// P15.1: whichever one-time secrets: low keys among them, all the same, a server's own; and a server that comes twice.
func TestBuildAnyOnce(t *testing.T) {
	hops := publics(secrets(3))
	for _, once := range append(lowKeys(), api.Key(times(32, 0xff)), secrets(1)[0], hops[1]) {
		builds(t, 7, hops, []api.Key{once, once, once}, text(9, 20))
	}
	one, _ := builds(t, 7, slices.Repeat(hops[:1], 3), onces(3), text(9, 20))
	for i, once := range onces(3) {
		peels(t, "a server that comes thrice", 7, secrets(1)[0], one, onionOf(7, slices.Repeat(hops[:1], 2-i), onces(3)[i+1:], text(9, 20)), shareOf(once, hops[0]))
		one, _, _ = onion.Peel(7, secrets(1)[0], one)
	}
}

// P15.1: a layer begins with the public key of its own one-time secret.
func TestOnionsKey(t *testing.T) {
	for n := 1; n <= 3; n++ {
		b, _ := builds(t, 7, publics(secrets(n)), onces(n), nil)
		for i := range n {
			public := curve.Public(onces(n)[i])
			if !bytes.HasPrefix(b, public[:]) {
				t.Errorf("layer %d of %d begins with % x", i, n, b[:32])
			}
			b, _, _ = onion.Peel(7, secrets(n)[i], b)
		}
	}
}
