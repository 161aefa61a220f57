package ratchet_test

import (
	"bytes"
	"fmt"
	"slices"
	"testing"

	"hollowtree/api"
	"hollowtree/ratchet"
)

// roomy is a ratchet whose list has room behind its end that is filled, and all of that list.
func roomy(r api.Ratchet) (api.Ratchet, []api.Skip) {
	all := append(slices.Clone(r.Skipped), slices.Repeat([]api.Skip{{Key: filled(0xee), Number: 0xeeeeeeee, Secret: filled(0xee)}}, 20)...)
	r.Skipped = all[:len(r.Skipped)]
	return r, all
}

// spoil changes each Skip of a list, and the room behind its end.
func spoil(list []api.Skip) {
	list = list[:cap(list)]
	for i := range list {
		list[i] = api.Skip{Key: filled(0x55), Number: uint32(i), Secret: filled(0xaa)}
	}
}

// keepsApart asks twice, and looks whether what is handed in is changed or kept, or an answer is told twice.
func keepsApart(t *testing.T, what string, r api.Ratchet, ask func(api.Ratchet) api.Ratchet) {
	t.Helper()
	want := copyOf(ask(copyOf(r)))
	given, all := roomy(r)
	was := slices.Clone(all)
	one, other := ask(given), ask(given)
	if !slices.Equal(all, was) {
		t.Errorf("%s: what is handed in is changed: %v, not %v", what, all, was)
	}
	if !alike(one, want) || !alike(other, want) {
		t.Errorf("%s: %v, then %v; not %v", what, one, other, want)
	}
	spoil(one.Skipped)
	if !slices.Equal(all, was) || !alike(other, want) {
		t.Errorf("%s: what is answered is kept", what)
	}
	spoil(all)
	if !alike(other, want) {
		t.Errorf("%s: what is handed in is kept", what)
	}
}

// R3: Seal, of no, some and MaxSkip keys; of a text that is refused, too.
func TestSealMemory(t *testing.T) {
	for n := range 9 {
		for _, text := range []string{"text", ""} {
			keepsApart(t, fmt.Sprint("Seal, ", n, " keys"), some(n), func(r api.Ratchet) api.Ratchet {
				r, _, _ = ratchet.Seal(r, text)
				return r
			})
		}
	}
}

// R3: Open, by a key that was passed over, by the chain, by a turn; with and without any passed over.
func TestOpenMemory(t *testing.T) {
	for n := range 9 {
		r := some(n)
		var headers []api.Header
		for _, s := range r.Skipped {
			headers = append(headers, api.Header{Key: s.Key, Number: s.Number})
		}
		for more := range uint32(9 - n) {
			headers = append(headers, api.Header{Key: r.Peer, Number: 6 + more}, api.Header{Key: public(8), Number: more}, api.Header{Key: public(8), Prev: 6 + more})
		}
		for _, h := range headers {
			m, _ := crafted(t, r, h, "text")
			for _, changed := range []byte{0, 1} {
				m.Body[9] ^= changed
				keepsApart(t, fmt.Sprint("Open, ", n, " keys, ", h.Number), r, func(r api.Ratchet) api.Ratchet {
					r, _, _ = ratchet.Open(r, m, keyNo(77))
					return r
				})
			}
		}
	}
}

// R3: Open that refuses ahead of the body.
func TestOpenRefusedMemory(t *testing.T) {
	for n := range 11 {
		r := some(n)
		for _, h := range []api.Header{{}, {Key: r.Peer}, {Key: r.Peer, Number: 100}, {Key: public(8), Prev: 100}, {Key: public(8), Number: 100}} {
			keepsApart(t, fmt.Sprint("Open, ", n, " keys, refused"), r, func(r api.Ratchet) api.Ratchet {
				r, _, _ = ratchet.Open(r, api.Message{Header: h}, keyNo(77))
				return r
			})
		}
	}
}

// R3: Check, Put and Same change nothing.
func TestAskedMemory(t *testing.T) {
	for n := range 11 {
		r, all := roomy(some(n))
		was := slices.Clone(all)
		ratchet.Check(r)
		ratchet.Put(r)
		ratchet.Same(r, some(n))
		ratchet.Same(some(n), r)
		if !slices.Equal(all, was) {
			t.Errorf("%d keys: what is handed in is changed", n)
		}
	}
}

// R3: what Put answers is told once, and shares nothing.
func TestPutMemory(t *testing.T) {
	for n := range 9 {
		r, _ := roomy(some(n))
		one, _ := ratchet.Put(r)
		other, _ := ratchet.Put(r)
		one = one[:cap(one)]
		for i := range one {
			one[i] ^= 0x55
		}
		if !bytes.Equal(other, bytesOf(some(n))) || !alike(r, some(n)) {
			t.Errorf("%d keys: one memory is answered twice", n)
		}
	}
}

// R3: Get neither changes nor keeps its bytes, and what it answers is told once.
func TestGetMemory(t *testing.T) {
	for n := range 9 {
		all := append(bytesOf(some(n)), bytes.Repeat([]byte{0xee}, 200)...)
		was := bytes.Clone(all)
		one, _ := ratchet.Get(all[:717])
		other, err := ratchet.Get(all[:717])
		if !bytes.Equal(all, was) || err != api.OK {
			t.Errorf("%d keys: the bytes are changed, %d", n, err)
		}
		spoil(one.Skipped)
		if !alike(other, some(n)) {
			t.Errorf("%d keys: one memory is answered twice", n)
		}
		for i := range all {
			all[i] ^= 0x55
		}
		if !alike(other, some(n)) {
			t.Errorf("%d keys: the bytes are kept", n)
		}
		was = bytes.Clone(all)
		if _, err := ratchet.Get(all[:717]); err != api.ErrRatchet || !bytes.Equal(all, was) {
			t.Errorf("%d keys: what is refused is changed, %d", n, err)
		}
	}
}
