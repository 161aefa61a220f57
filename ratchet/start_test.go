package ratchet_test

import (
	"math/rand"
	"slices"
	"testing"

	"hollowtree/api"
	"hollowtree/curve"
	"hollowtree/kdf"
	"hollowtree/ratchet"
)

// starts holds what begins against the chapter's words.
func starts(t *testing.T, p api.Pair, secret, peer, fresh api.Key) api.Ratchet {
	t.Helper()
	got, err := ratchet.Start(p, secret, peer, fresh)
	want := secondOf(p.Secret, secret, peer)
	if p.First {
		want = firstOf(t, p.Secret, peer, fresh)
	}
	if err != api.OK || !alike(got, want) {
		t.Errorf("Start of %v, %x, %x, %x: %v, %d; not %v", p, secret, peer, fresh, got, err, want)
	}
	return got
}

// P17.1: the first one, each field.
func TestStartFirst(t *testing.T) {
	secret, peer, fresh := keyNo(1), public(2), keyNo(3)
	got, err := ratchet.Start(api.Pair{Secret: keyNo(4), First: true}, secret, peer, fresh)
	if err != api.OK {
		t.Fatal(err)
	}
	root, first := kdf.Two(keyNo(4), "ratchet")
	shared, _ := curve.Agree(fresh, peer)
	next, send := kdf.Two(root, "turn", shared[:])
	if got.Root != next || got.Send != send {
		t.Errorf("Root %x, Send %x; not %x, %x", got.Root, got.Send, next, send)
	}
	if got.Own != fresh || got.Peer != peer {
		t.Errorf("Own %x, Peer %x; not %x, %x", got.Own, got.Peer, fresh, peer)
	}
	if got.Receive != kdf.Derive(keyNo(4), "second") || got.Receive == first {
		t.Errorf("Receive %x", got.Receive)
	}
	if got.Sent != 0 || got.Received != 0 || got.Before != 0 || len(got.Skipped) != 0 {
		t.Errorf("%d, %d, %d, %v", got.Sent, got.Received, got.Before, got.Skipped)
	}
}

// P17.1: the second one, each field.
func TestStartSecond(t *testing.T) {
	secret, peer, fresh := keyNo(1), public(2), keyNo(3)
	got, err := ratchet.Start(api.Pair{Secret: keyNo(4)}, secret, peer, fresh)
	if err != api.OK {
		t.Fatal(err)
	}
	root, first := kdf.Two(keyNo(4), "ratchet")
	if got.Root != root || got.Send != kdf.Derive(keyNo(4), "second") || got.Send == first {
		t.Errorf("Root %x, Send %x", got.Root, got.Send)
	}
	if got.Own != secret || got.Peer != peer || got.Receive != (api.Key{}) {
		t.Errorf("Own %x, Peer %x, Receive %x", got.Own, got.Peer, got.Receive)
	}
	if got.Sent != 0 || got.Received != 0 || got.Before != 0 || len(got.Skipped) != 0 {
		t.Errorf("%d, %d, %d, %v", got.Sent, got.Received, got.Before, got.Skipped)
	}
}

// P17.1: drawn ones of both kinds, and such as are at the edges; the pair need not be that of the keys.
func TestStartDrawn(t *testing.T) {
	r := rand.New(rand.NewSource(17))
	for i := range 60 {
		starts(t, api.Pair{Secret: drawn(r), First: i%2 == 0}, drawn(r), drawn(r), drawn(r))
	}
	for _, first := range []bool{true, false} {
		for _, k := range []api.Key{{}, {1}, filled(0xff), {31: 0x80}} {
			starts(t, api.Pair{Secret: k, First: first}, keyNo(1), public(2), keyNo(3))
			starts(t, api.Pair{Secret: keyNo(4), First: first}, k, public(2), keyNo(3))
			starts(t, api.Pair{Secret: keyNo(4), First: first}, keyNo(1), public(2), k)
		}
		starts(t, api.Pair{Secret: keyNo(4), First: first}, keyNo(1), curve.Public(keyNo(1)), keyNo(1))
	}
}

// P17.1: one's secret does not count for the first one, nor the fresh one for the second one.
func TestStartWhatCounts(t *testing.T) {
	one := starts(t, api.Pair{Secret: keyNo(4), First: true}, keyNo(1), public(2), keyNo(3))
	other := starts(t, api.Pair{Secret: keyNo(4), First: true}, keyNo(5), public(2), keyNo(3))
	if !alike(one, other) {
		t.Errorf("the first one's secret counts: %v, %v", one, other)
	}
	one = starts(t, api.Pair{Secret: keyNo(4)}, keyNo(1), public(2), keyNo(3))
	other = starts(t, api.Pair{Secret: keyNo(4)}, keyNo(1), public(2), keyNo(5))
	if !alike(one, other) {
		t.Errorf("the second one's fresh secret counts: %v, %v", one, other)
	}
}

// P17.1: a low key is refused in each of its writings, by the first one and by the second one, whatever the secrets are.
func TestStartLow(t *testing.T) {
	if n := len(lowKeys()); n < 12 {
		t.Fatalf("%d low keys", n)
	}
	for _, low := range lowKeys() {
		for _, first := range []bool{true, false} {
			for _, k := range []api.Key{keyNo(1), {}, filled(0xff)} {
				got, err := ratchet.Start(api.Pair{Secret: k, First: first}, k, low, k)
				if err != api.ErrLow || !alike(got, api.Ratchet{}) {
					t.Errorf("Start with the peer %x, first %v: %v, %d", low, first, got, err)
				}
			}
		}
	}
}

// P17.1: what is near a low key is not refused.
func TestStartNearlyLow(t *testing.T) {
	for _, low := range lowKeys() {
		for _, bit := range []int{0, 1, 7, 100, 254} {
			k := low
			k[bit/8] ^= 1 << (bit % 8)
			if slices.Contains(lowKeys(), k) {
				continue
			}
			for _, first := range []bool{true, false} {
				starts(t, api.Pair{Secret: keyNo(4), First: first}, keyNo(1), k, keyNo(3))
			}
		}
	}
}

// P17.1: what begins may be, of both kinds.
func TestStartMayBe(t *testing.T) {
	for _, first := range []bool{true, false} {
		if err := ratchet.Check(starts(t, api.Pair{Secret: keyNo(4), First: first}, keyNo(1), public(2), keyNo(3))); err != api.OK {
			t.Errorf("Check of what begins: %d", err)
		}
	}
}
