package sched_test

import (
	"bytes"
	"math"
	"math/rand"
	"testing"

	"hollowtree/aead"
	"hollowtree/api"
	"hollowtree/frame"
	"hollowtree/ident"
	"hollowtree/sched"
)

// noEnvelopes may not be: each for one reason of chapter 14, and for both that an idle one can have.
func noEnvelopes() []api.Envelope {
	var list []api.Envelope
	// Numbers whose lowest byte, or lowest four, is a kind's are no kinds.
	for _, kind := range []int{-1, 2, 3, 255, 256, 257, -255, -256, 1 << 16, 1<<16 + 1, 1 << 32, 1<<32 + 1, math.MinInt, math.MinInt + 1, math.MaxInt} {
		list = append(list, api.Envelope{Kind: kind}, api.Envelope{Kind: kind, Ack: 2, Seq: 3, Body: known()})
	}
	for bit := range 32 {
		list = append(list, api.Envelope{Ack: 9, Seq: 1 << bit})
	}
	for bit := range 8 * api.MessageSize {
		e := api.Envelope{Ack: 9}
		e.Body[bit/8] = 1 << (bit % 8)
		list = append(list, e)
	}
	return append(list, api.Envelope{Seq: math.MaxUint32, Body: filled(0xff)})
}

// P19.1: the real exchange by the chapter's words, in rounds at the edges, for either side and envelopes of each kind.
func TestReal(t *testing.T) {
	for n := range 3 {
		for _, way := range bothWays(n) {
			for _, round := range rounds() {
				for _, e := range envelopes() {
					makes(t, way[0], round, e)
				}
			}
		}
	}
}

// P19.1: whatever the pair's secret is.
func TestRealSecrets(t *testing.T) {
	for _, secret := range []api.Key{{}, {1}, {31: 1}, api.Key(bytes.Repeat([]byte{0xff}, 32))} {
		for _, first := range []bool{false, true} {
			makes(t, api.Pair{Secret: secret, First: first}, 5, envelopes()[6])
		}
	}
}

// P19.1: in rounds and of envelopes that are drawn.
func TestRealDrawn(t *testing.T) {
	r := rand.New(rand.NewSource(1))
	for range 500 {
		p := api.Pair{Secret: keyNo(r.Intn(1 << 16)), First: r.Intn(2) == 0}
		makes(t, p, r.Uint64()|1, drawnEnvelope(r))
	}
}

// P19.1: the Drop is the pair's hollow in that round, and by aead alone the Body opens to the envelope's bytes: with the key for what oneself sends, the round's count, and the hollow as ad.
func TestRealOpens(t *testing.T) {
	for _, way := range bothWays(3) {
		for _, round := range rounds() {
			for _, e := range envelopes() {
				x := makes(t, way[0], round, e)
				if x.Drop != ident.Drop(way[0], round) || x.Drop != ident.Drop(way[1], round) {
					t.Errorf("the hollow in %d: %x", round, x.Drop)
				}
				want, _ := frame.PutEnvelope(e)
				for side, key := range []api.Key{ident.RoundKey(way[0], round, true), ident.RoundKey(way[1], round, false)} {
					plain, err := aead.Open(key, aead.Count(round), x.Drop[:], x.Body[:])
					if err != api.OK || !bytes.Equal(plain, want) || !bytes.Equal(plain, bytesOf(e)) {
						t.Errorf("the Body in %d by side %d: %x, %d", round, side, plain, err)
					}
				}
				if _, err := aead.Open(ident.RoundKey(way[0], round, false), aead.Count(round), x.Drop[:], x.Body[:]); err != api.ErrAuth {
					t.Errorf("the Body in %d by the other way's key: %d", round, err)
				}
			}
		}
	}
}

// P19.1: no round 0, whatever else may be.
func TestRealRound(t *testing.T) {
	p, q := sides(4)
	for _, e := range envelopes() {
		makesNot(t, p, 0, e, api.ErrRound)
		makesNot(t, q, 0, e, api.ErrRound)
		makes(t, p, 1, e)
		makes(t, p, math.MaxUint64, e)
	}
}

// P19.1: no envelope that may not be, in whatever round; of round 0 that is the first error.
func TestRealField(t *testing.T) {
	for _, way := range bothWays(5) {
		for _, e := range noEnvelopes() {
			for _, round := range []uint64{1, 3, math.MaxUint64} {
				makesNot(t, way[0], round, e, api.ErrField)
			}
			makesNot(t, way[0], 0, e, api.ErrRound)
		}
	}
	makesNot(t, api.Pair{}, 0, api.Envelope{Kind: 2}, api.ErrRound)
	makesNot(t, api.Pair{}, 1, api.Envelope{Kind: 2}, api.ErrField)
}

// P19.1: in other rounds, from the other side, and of other pairs one envelope is sealed as other bytes.
func TestRealsApart(t *testing.T) {
	bodies, drops, count := map[[130]byte]int{}, map[api.Drop]int{}, 0
	for n := range 4 {
		for _, round := range rounds() {
			for _, way := range bothWays(n) {
				x, _ := sched.Real(way[0], round, envelopes()[6])
				bodies[x.Body]++
				drops[x.Drop]++
				count++
			}
		}
	}
	if len(bodies) != count || len(drops) != count/2 {
		t.Errorf("%d bodies and %d hollows of %d exchanges", len(bodies), len(drops), count)
	}
}
