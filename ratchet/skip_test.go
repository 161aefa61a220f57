package ratchet_test

import (
	"fmt"
	"math"
	"math/rand"
	"slices"
	"testing"

	"hollowtree/api"
	"hollowtree/kdf"
	"hollowtree/ratchet"
)

// P17.3: a key that was passed over opens its message, wherever it stands, and goes; nothing else changes.
func TestOpenSkipped(t *testing.T) {
	for n := 1; n <= 8; n++ {
		for at := range n {
			r := some(n)
			s := r.Skipped[at]
			m := textMessage(s.Secret, api.Header{Key: s.Key, Prev: 2, Number: s.Number}, "late")
			want := some(n)
			want.Skipped = slices.Delete(want.Skipped, at, at+1)
			opens(t, fmt.Sprint(at, " of ", n), r, m, keyNo(77), "late", want)
			if !alike(r, some(n)) {
				t.Errorf("%d of %d: what was handed in is %v", at, n, r)
			}
			m.Body[at] ^= 1
			opensNot(t, fmt.Sprint(at, " of ", n, ", a byte turned"), r, m, api.ErrAuth)
			if !alike(r, some(n)) {
				t.Errorf("%d of %d, a byte turned: what was handed in is %v", at, n, r)
			}
		}
	}
}

// P17.3: behind it the message is old, if its Key is Peer and its Number below Received; of another Key it is taken for a new one.
func TestOpenSkippedAgain(t *testing.T) {
	r := some(2)
	r.Skipped = append(r.Skipped, api.Skip{Key: r.Peer, Number: 5, Secret: keyNo(50)})
	m := textMessage(keyNo(50), api.Header{Key: r.Peer, Number: 5}, "five")
	behind := some(2)
	opens(t, "five", r, m, keyNo(77), "five", behind)
	opensNot(t, "five again", behind, m, api.ErrOld)
	m = textMessage(r.Skipped[0].Secret, api.Header{Key: r.Skipped[0].Key, Number: r.Skipped[0].Number}, "three")
	behind.Skipped = behind.Skipped[1:]
	opens(t, "three", some(2), m, keyNo(77), "three", behind)
	opensNot(t, "three again", behind, m, api.ErrAuth)
}

// P17.3: a key that was passed over goes ahead of all: of a low Key, of Peer with whatever Number, without a Receive, without room.
func TestOpenSkippedAhead(t *testing.T) {
	for _, key := range append(lowKeys(), some(0).Peer, api.Key{}, filled(0xff)) {
		for _, number := range []uint32{0, 5, 6, 7, bound, bound + 1, math.MaxUint32} {
			for _, receive := range []api.Key{{}, keyNo(5)} {
				r := some(7)
				r.Receive = receive
				r.Skipped = append(r.Skipped, api.Skip{Key: key, Number: number, Secret: keyNo(50)})
				want := some(7)
				want.Receive = receive
				what := fmt.Sprintf("Key %x, Number %d", key, number)
				h := api.Header{Key: key, Prev: math.MaxUint32, Number: number}
				opens(t, what, r, textMessage(keyNo(50), h, "late"), keyNo(77), "late", want)
				opensNot(t, what+", a wrong body", r, api.Message{Header: h}, api.ErrAuth)
				_, chain := kdf.Step(r.Receive)
				opensNot(t, what+", by the chain", r, textMessage(chain, h, "late"), api.ErrAuth)
			}
		}
	}
}

// P17.3: a secret of noughts is a key as well as others.
func TestOpenSkippedNoughts(t *testing.T) {
	r := some(1)
	r.Skipped = append(r.Skipped, api.Skip{})
	opens(t, "noughts", r, textMessage(api.Key{}, api.Header{}, "late"), keyNo(77), "late", some(1))
}

// P17.3: neither the Key alone nor the Number alone is enough.
func TestOpenSkippedNearly(t *testing.T) {
	r := some(4)
	for _, s := range r.Skipped {
		for _, other := range []api.Header{{Key: s.Key, Number: s.Number + 100}, {Key: public(8), Number: s.Number + 100}, {Key: public(8), Number: s.Number + 2}} {
			opensNot(t, fmt.Sprint("another one, ", other.Number), r, textMessage(s.Secret, other, "late"), api.ErrSkip)
		}
		for _, other := range []api.Header{{Key: s.Key, Number: s.Number % 3}, {Key: public(8), Number: s.Number % 3}, {Key: r.Peer, Number: 6 + s.Number%3}} {
			opensNot(t, fmt.Sprint("another one, ", other.Number), r, textMessage(s.Secret, other, "late"), api.ErrAuth)
			opensCrafted(t, fmt.Sprint("by its own key, ", other.Number), r, other)
		}
	}
}

// P17.3: a key that was found makes room for another one.
func TestOpenSkippedMakesRoom(t *testing.T) {
	r := some(8)
	s := r.Skipped[3]
	next := api.Header{Key: r.Peer, Number: 7}
	refusesUnread(t, "no room", r, next, api.ErrSkip)
	r, _, err := ratchet.Open(r, textMessage(s.Secret, api.Header{Key: s.Key, Number: s.Number}, "late"), keyNo(77))
	if err != api.OK {
		t.Fatal(err)
	}
	opensCrafted(t, "room for one", r, next)
	next.Number = 8
	refusesUnread(t, "no room for two", r, next, api.ErrSkip)
}

// P17.3: what is passed over stands behind what was there, in the order of the numbers, and opens its message behind that.
func TestOpenPassedOver(t *testing.T) {
	r := some(2)
	var list []api.Message
	chain := r.Receive
	for number := range uint32(6) {
		next, key := kdf.Step(chain)
		list = append(list, textMessage(key, api.Header{Key: r.Peer, Number: 6 + number}, fmt.Sprint("number ", number)))
		chain = next
	}
	r, text, err := ratchet.Open(r, list[5], keyNo(77))
	if text != "number 5" || err != api.OK || r.Receive != chain || r.Received != 12 || len(r.Skipped) != 7 {
		t.Fatalf("%q, %d, %v", text, err, r)
	}
	for i, s := range r.Skipped[2:] {
		if s.Key != r.Peer || s.Number != uint32(6+i) {
			t.Errorf("%d: %v", i, s)
		}
	}
	for _, i := range []int{3, 0, 4, 2, 1} {
		behind, text, err := ratchet.Open(r, list[i], keyNo(77))
		if text != fmt.Sprint("number ", i) || err != api.OK {
			t.Errorf("%d: %q, %d", i, text, err)
		}
		r = behind
	}
	want := some(2)
	want.Receive, want.Received = chain, 12
	if !alike(r, want) {
		t.Errorf("behind all: %v, not %v", r, want)
	}
}

// drawnHeader is at the edges of what a ratchet can open, as often as beyond them.
func drawnHeader(d *rand.Rand, r api.Ratchet, keys []api.Key) api.Header {
	near := func(n uint32) uint32 {
		numbers := []uint32{0, 1, n, n + uint32(d.Intn(10)), n - uint32(d.Intn(3)), uint32(d.Intn(10)), d.Uint32()}
		return numbers[d.Intn(len(numbers))]
	}
	h := api.Header{Key: keys[d.Intn(len(keys))], Prev: near(r.Received), Number: near(0)}
	if d.Intn(2) == 0 {
		h.Key, h.Number = r.Peer, near(r.Received)
	}
	if len(r.Skipped) > 0 && d.Intn(4) == 0 {
		s := r.Skipped[d.Intn(len(r.Skipped))]
		h.Key, h.Number = s.Key, s.Number
	}
	return h
}

// drawnRatchet may be, mostly.
func drawnRatchet(d *rand.Rand, keys []api.Key) api.Ratchet {
	numbers := []uint32{0, 1, 5, 40, bound - 1, bound, bound + 1}
	r := api.Ratchet{Root: drawn(d), Own: drawn(d), Peer: keys[d.Intn(len(keys))], Send: drawn(d), Receive: drawn(d)}
	r.Sent, r.Received, r.Before = numbers[d.Intn(6)], numbers[d.Intn(5)], numbers[d.Intn(6)]
	if d.Intn(20) == 0 {
		*[]*uint32{&r.Sent, &r.Received, &r.Before}[d.Intn(3)] = bound + 1
	}
	if d.Intn(4) == 0 {
		r.Receive = api.Key{}
	}
	for i := range d.Intn(10) {
		r.Skipped = append(r.Skipped, api.Skip{Key: keys[d.Intn(len(keys))], Number: uint32(1000*i + d.Intn(20)), Secret: drawn(d)})
	}
	return r
}

// P17.3: drawn ratchets and messages, right ones and wrong ones, against the chapter's words.
func TestOpenDrawn(t *testing.T) {
	d := rand.New(rand.NewSource(19))
	keys := []api.Key{public(1), public(2), public(3), public(4), {}, {1}}
	count := map[api.Errno]int{}
	for range 2000 {
		r := drawnRatchet(d, keys)
		h := drawnHeader(d, r, keys)
		m := api.Message{Header: h}
		if errorOf(r, h) == api.OK && d.Intn(4) > 0 {
			m, _ = crafted(t, r, h, "drawn")
		}
		want, text, err := openOf(t, r, m, keyNo(77))
		count[err]++
		if err == api.OK {
			opens(t, "a drawn one", r, m, keyNo(77), text, want)
		} else {
			opensNot(t, "a drawn one", r, m, err)
		}
	}
	for _, err := range []api.Errno{api.OK, api.ErrRatchet, api.ErrLow, api.ErrOld, api.ErrSkip, api.ErrAuth} {
		if count[err] < 50 {
			t.Errorf("%d only %d times", err, count[err])
		}
	}
}
