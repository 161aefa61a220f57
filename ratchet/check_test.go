package ratchet_test

import (
	"math"
	"strings"
	"testing"

	"hollowtree/api"
	"hollowtree/ratchet"
)

// checks holds Check against what is wanted, and Seal, Open and Put: they refuse a ratchet that may not be ahead of all else, and no other one for that.
func checks(t *testing.T, what string, r api.Ratchet, want api.Errno) {
	t.Helper()
	if err := ratchet.Check(r); err != want {
		t.Errorf("Check of %s: %d, not %d", what, err, want)
	}
	_, _, sealed := ratchet.Seal(r, "text")
	_, _, opened := ratchet.Open(r, api.Message{}, keyNo(1))
	_, put := ratchet.Put(r)
	for name, err := range map[string]api.Errno{"Seal": sealed, "Open": opened, "Put": put} {
		if (err == api.ErrRatchet) != (want == api.ErrRatchet) {
			t.Errorf("%s of %s: %d", name, what, err)
		}
	}
	if mayBe(r) != (want == api.OK) {
		t.Errorf("the tests' own words say otherwise of %s", what)
	}
}

// P17.1: no key, MaxSkip keys, and more.
func TestCheckCount(t *testing.T) {
	checks(t, "the zero one", api.Ratchet{}, api.OK)
	for n := range 9 {
		checks(t, "so many keys as there is room for", some(n), api.OK)
	}
	for _, n := range []int{9, 10, 16, 255, 256, 257, 264, 1000} {
		checks(t, "more keys than there is room for", some(n), api.ErrRatchet)
	}
	r := some(0)
	r.Skipped = []api.Skip{}
	checks(t, "an empty list", r, api.OK)
}

// P17.1: each number just kept, and just passed.
func TestCheckNumbers(t *testing.T) {
	for at := range 3 {
		with := func(n uint32) api.Ratchet {
			r := some(2)
			*[]*uint32{&r.Sent, &r.Received, &r.Before}[at] = n
			return r
		}
		for _, n := range []uint32{0, 1, 255, 65536, math.MaxInt32, bound} {
			checks(t, "numbers that may be", with(n), api.OK)
		}
		for _, n := range []uint32{bound + 1, bound + 2, bound + 256, math.MaxUint32 - 1, math.MaxUint32} {
			checks(t, "a number that is too great", with(n), api.ErrRatchet)
		}
	}
	r := some(8)
	r.Sent, r.Received, r.Before = bound, bound, bound
	checks(t, "all at their limits", r, api.OK)
}

// P17.1: the number of a key that was passed over has no limit.
func TestCheckSkipNumber(t *testing.T) {
	for _, n := range []uint32{0, bound, bound + 1, math.MaxUint32} {
		r := some(3)
		r.Skipped[1].Number = n
		checks(t, "a key of whatever number", r, api.OK)
	}
}

// P17.1: two keys for one Key and Number, at any two places, with one secret and with two.
func TestCheckTwice(t *testing.T) {
	for n := 2; n <= 8; n++ {
		for i := range n {
			for j := range i {
				r := some(n)
				r.Skipped[j].Key, r.Skipped[j].Number = r.Skipped[i].Key, r.Skipped[i].Number
				checks(t, "two for one message", r, api.ErrRatchet)
				r.Skipped[j] = r.Skipped[i]
				checks(t, "one key twice", r, api.ErrRatchet)
			}
		}
	}
}

// P17.1: two for one Key with other Numbers, and for one Number with other Keys, may be, with one secret, too.
func TestCheckNearlyTwice(t *testing.T) {
	for n := 2; n <= 8; n++ {
		one, other := some(n), some(n)
		for i := range n {
			one.Skipped[i] = api.Skip{Key: keyNo(6), Number: uint32(i), Secret: keyNo(7)}
			other.Skipped[i] = api.Skip{Key: keyNo(i), Number: 6, Secret: keyNo(7)}
		}
		checks(t, "one Key, other Numbers", one, api.OK)
		checks(t, "one Number, other Keys", other, api.OK)
	}
	for bit := range 256 {
		r := some(2)
		r.Skipped[1] = r.Skipped[0]
		r.Skipped[1].Key[bit/8] ^= 1 << (bit % 8)
		checks(t, "Keys that are unlike in one bit", r, api.OK)
	}
	for bit := range 32 {
		r := some(2)
		r.Skipped[1] = r.Skipped[0]
		r.Skipped[1].Number ^= 1 << bit
		checks(t, "Numbers that are unlike in one bit", r, api.OK)
	}
}

// P17.1: whatever the keys are, noughts too, and a Key that is Peer.
func TestCheckKeys(t *testing.T) {
	checks(t, "no keys but those that were passed over", api.Ratchet{Skipped: some(8).Skipped}, api.OK)
	r := some(2)
	r.Skipped[0], r.Skipped[1] = api.Skip{}, api.Skip{Key: r.Peer, Number: r.Received}
	checks(t, "a Skip of noughts, and one of Peer", r, api.OK)
}

// notRatchets are ratchets that may not be, each for one reason.
func notRatchets() []api.Ratchet {
	list := []api.Ratchet{some(9), some(2), some(0), some(0), some(0)}
	list[1].Skipped[1] = list[1].Skipped[0]
	list[2].Sent, list[3].Received, list[4].Before = bound+1, bound+1, bound+1
	return list
}

// P17.2 to P17.4: ErrRatchet ahead of all else, whatever else is wrong; nothing beside it.
func TestRatchetAhead(t *testing.T) {
	for _, r := range notRatchets() {
		for _, send := range []api.Key{r.Send, {}} {
			r.Send = send
			for _, n := range []int{0, 1, 48, 49} {
				got, m, err := ratchet.Seal(r, strings.Repeat("x", n))
				if err != api.ErrRatchet || m != (api.Message{}) || !alike(got, api.Ratchet{}) {
					t.Errorf("Seal of %d bytes: %v, %v, %d", n, got, m, err)
				}
			}
		}
		right, _ := keyOf(t, r, api.Header{Key: r.Peer, Number: r.Received}, keyNo(9))
		headers := []api.Header{{}, {Key: r.Peer}, {Key: r.Peer, Number: r.Received}, {Key: public(8), Number: 9}, {Key: public(8)}}
		if len(r.Skipped) > 0 {
			headers = append(headers, api.Header{Key: r.Skipped[0].Key, Number: r.Skipped[0].Number})
		}
		for _, h := range headers {
			opensNot(t, "an unread body", r, api.Message{Header: h}, api.ErrRatchet)
			opensNot(t, "a right body", r, textMessage(right, h, "text"), api.ErrRatchet)
			if len(r.Skipped) > 0 {
				opensNot(t, "a right body of one that was passed over", r, textMessage(r.Skipped[0].Secret, h, "text"), api.ErrRatchet)
			}
		}
		if b, err := ratchet.Put(r); err != api.ErrRatchet || len(b) != 0 {
			t.Errorf("Put: % x, %d", b, err)
		}
	}
}
