package ratchet_test

import (
	"fmt"
	"math"
	"slices"
	"strings"
	"testing"

	"hollowtree/aead"
	"hollowtree/api"
	"hollowtree/curve"
	"hollowtree/kdf"
	"hollowtree/ratchet"
)

// crafted is a message of that header that a ratchet opens, if it is not refused ahead of the body, and the ratchet behind it.
func crafted(t *testing.T, r api.Ratchet, h api.Header, text string) (api.Message, api.Ratchet) {
	t.Helper()
	key, behind := keyOf(t, r, h, keyNo(77))
	return textMessage(key, h, text), behind
}

// opensCrafted opens such a message, and refuses it with each byte of its body turned.
func opensCrafted(t *testing.T, what string, r api.Ratchet, h api.Header) {
	t.Helper()
	m, behind := crafted(t, r, h, "crafted")
	opens(t, what, r, m, keyNo(77), "crafted", behind)
	m.Body[int(h.Number)%65] ^= 0x10
	opensNot(t, what+", a byte turned", r, m, api.ErrAuth)
}

// refusesUnread looks for an error that is told whatever the body says.
func refusesUnread(t *testing.T, what string, r api.Ratchet, h api.Header, want api.Errno) {
	t.Helper()
	opensNot(t, what, r, api.Message{Header: h}, want)
	for _, chain := range []api.Key{r.Receive, r.Send, r.Root} {
		_, key := kdf.Step(chain)
		opensNot(t, what, r, textMessage(key, h, "text"), want)
	}
}

// P17.3: a message by the chain that is there, field by field.
func TestOpenSameChain(t *testing.T) {
	r := some(2)
	h := api.Header{Key: r.Peer, Prev: 3, Number: 7}
	between, passed := kdf.Step(r.Receive)
	next, key := kdf.Step(between)
	got, text, err := ratchet.Open(r, textMessage(key, h, "seven"), keyNo(9))
	if text != "seven" || err != api.OK {
		t.Fatalf("%q, %d", text, err)
	}
	if got.Receive != next || got.Received != 8 {
		t.Errorf("Receive %x, Received %d; not %x, 8", got.Receive, got.Received, next)
	}
	if want := append(some(2).Skipped, api.Skip{Key: r.Peer, Number: 6, Secret: passed}); !slices.Equal(got.Skipped, want) {
		t.Errorf("Skipped %v, not %v", got.Skipped, want)
	}
	got.Receive, got.Received, got.Skipped = r.Receive, r.Received, r.Skipped
	if !alike(got, r) {
		t.Errorf("more has changed: %v, not %v", got, r)
	}
}

// P17.3: a message by a new key, field by field: passed over up to Prev, turned, passed over up to Number.
func TestOpenTurned(t *testing.T) {
	r, fresh := some(2), keyNo(9)
	h := api.Header{Key: public(8), Prev: 8, Number: 1}
	chain, six := kdf.Step(r.Receive)
	_, seven := kdf.Step(chain)
	shared, _ := curve.Agree(r.Own, h.Key)
	root, receive := kdf.Two(r.Root, "turn", shared[:])
	chain, nought := kdf.Step(receive)
	next, key := kdf.Step(chain)
	shared, _ = curve.Agree(fresh, h.Key)
	last, send := kdf.Two(root, "turn", shared[:])

	got, text, err := ratchet.Open(r, textMessage(key, h, "turned"), fresh)
	if text != "turned" || err != api.OK {
		t.Fatalf("%q, %d", text, err)
	}
	if got.Root != last || got.Own != fresh || got.Peer != h.Key || got.Send != send || got.Receive != next {
		t.Errorf("the keys: %v", got)
	}
	if got.Before != 11 || got.Sent != 0 || got.Received != 2 {
		t.Errorf("Before %d, Sent %d, Received %d", got.Before, got.Sent, got.Received)
	}
	want := append(some(2).Skipped, api.Skip{Key: r.Peer, Number: 6, Secret: six}, api.Skip{Key: r.Peer, Number: 7, Secret: seven}, api.Skip{Key: h.Key, Number: 0, Secret: nought})
	if !slices.Equal(got.Skipped, want) {
		t.Errorf("Skipped %v, not %v", got.Skipped, want)
	}
}

// P17.3: Prev below, at and above Received, for a new key; with and without a Receive.
func TestOpenPrev(t *testing.T) {
	for _, received := range []uint32{0, 1, 6, 300, bound} {
		for _, prev := range []uint32{0, 1, 5, 6, 7, 9, 299, 300, 301, 308, bound - 1, bound, bound + 1, bound + 8} {
			r := some(0)
			r.Received = received
			h := api.Header{Key: public(8), Prev: prev}
			what := fmt.Sprint("Received ", received, ", Prev ", prev)
			if prev > received+8 {
				refusesUnread(t, what, r, h, api.ErrSkip)
			} else {
				opensCrafted(t, what, r, h)
			}
			r.Receive = api.Key{}
			opensCrafted(t, what+", no Receive", r, h)
		}
	}
}

// P17.3: Prev does not matter for a Key that is Peer, but as what was sealed.
func TestOpenPrevOfPeer(t *testing.T) {
	for _, prev := range []uint32{0, 5, 6, 7, 100, bound, math.MaxUint32} {
		opensCrafted(t, fmt.Sprint("Prev ", prev), some(8), api.Header{Key: some(0).Peer, Prev: prev, Number: 6})
	}
}

// P17.3: with just as many passed over as there is room for, and one more: by Number alone, of Peer.
func TestOpenRoomOfPeer(t *testing.T) {
	for have := range 9 {
		for _, received := range []uint32{0, 6, bound - 9} {
			r := some(have)
			r.Received = received
			for passed := range 9 - have {
				opensCrafted(t, fmt.Sprint(have, " keys, ", passed, " more"), r, api.Header{Key: r.Peer, Number: received + uint32(passed)})
			}
			for _, passed := range []uint32{9, 10, 100, 256, 264, 65536, 1 << 24} {
				refusesUnread(t, fmt.Sprint(have, " keys, ", passed, " more or less"), r, api.Header{Key: r.Peer, Number: received + passed - uint32(have)}, api.ErrSkip)
			}
		}
	}
}

// P17.3: no error is named for a message behind which the ratchet may not be, as a Number of 2^31 or a ratchet key that comes again make one; it is told all the same.
func TestOpenBeyond(t *testing.T) {
	r := some(0)
	r.Received = bound
	h := api.Header{Key: r.Peer, Number: bound}
	opensCrafted(t, "Number 2^31", r, h)
	r.Skipped = []api.Skip{{Key: public(8), Number: 1, Secret: keyNo(50)}}
	opensCrafted(t, "a key that comes again", r, api.Header{Key: public(8), Number: 2})
}

// P17.3: the same of a new key: by Number alone, by Prev alone, by both.
func TestOpenRoomOfNew(t *testing.T) {
	for have := range 9 {
		r := some(have)
		room := uint32(8 - have)
		for number := range room + 1 {
			opensCrafted(t, fmt.Sprint(have, " keys, by both"), r, api.Header{Key: public(8), Prev: 6 + room - number, Number: number})
			refusesUnread(t, fmt.Sprint(have, " keys, by both, one more"), r, api.Header{Key: public(8), Prev: 7 + room - number, Number: number}, api.ErrSkip)
			opensCrafted(t, fmt.Sprint(have, " keys, by Number alone"), r, api.Header{Key: public(8), Prev: number % 7, Number: number})
			opensCrafted(t, fmt.Sprint(have, " keys, by Prev alone"), r, api.Header{Key: public(8), Prev: 6 + number})
		}
		for _, more := range []uint32{1, 2, 256, 65536} {
			refusesUnread(t, fmt.Sprint(have, " keys, by Number, ", more, " more"), r, api.Header{Key: public(8), Number: room + more}, api.ErrSkip)
			refusesUnread(t, fmt.Sprint(have, " keys, by Prev, ", more, " more"), r, api.Header{Key: public(8), Prev: 6 + room + more}, api.ErrSkip)
		}
		r.Receive = api.Key{}
		opensCrafted(t, fmt.Sprint(have, " keys, no Receive"), r, api.Header{Key: public(8), Prev: math.MaxUint32, Number: room})
		refusesUnread(t, fmt.Sprint(have, " keys, no Receive, one more"), r, api.Header{Key: public(8), Prev: math.MaxUint32, Number: room + 1}, api.ErrSkip)
	}
}

// P17.3: numbers about 2^32, and such as go round where they are added: answered at once, nothing is passed over that can't be kept.
func TestOpenHuge(t *testing.T) {
	const top = math.MaxUint32
	stranger := public(8)
	for have := range uint32(9) {
		for _, received := range []uint32{0, 1, 6, bound - 1, bound} {
			r := some(int(have))
			r.Received = received
			list := []api.Header{
				{Key: r.Peer, Number: top}, {Key: r.Peer, Number: top - 8}, {Key: r.Peer, Prev: top, Number: top}, {Key: r.Peer, Number: received + bound - 1},
				{Key: stranger, Number: top}, {Key: stranger, Number: top - 8}, {Key: stranger, Number: bound}, {Key: stranger, Number: bound + 1},
				{Key: stranger, Prev: top}, {Key: stranger, Prev: top - 8}, {Key: stranger, Prev: received + bound - 1}, {Key: stranger, Prev: top, Number: top},
			}
			for _, passed := range []uint32{1, 2, 9, bound - 1} {
				for number := -passed - 9; number != 0 && number <= -passed+1; number++ {
					list = append(list, api.Header{Key: stranger, Prev: received + passed, Number: number})
				}
			}
			for _, h := range list {
				refusesUnread(t, fmt.Sprint(have, " keys, Received ", received, ", Prev ", h.Prev, ", Number ", h.Number), r, h, api.ErrSkip)
			}
		}
	}
}

// P17.3: ErrOld: of Peer with a Number below Received, or without a Receive.
func TestOpenOld(t *testing.T) {
	r := some(3)
	for number := range r.Received {
		refusesUnread(t, fmt.Sprint("Number ", number), r, api.Header{Key: r.Peer, Number: number}, api.ErrOld)
	}
	opensCrafted(t, "Number 6", r, api.Header{Key: r.Peer, Number: 6})
	r.Received = bound
	for _, number := range []uint32{0, 6, bound - 9, bound - 1} {
		refusesUnread(t, fmt.Sprint("Number ", number), r, api.Header{Key: r.Peer, Number: number}, api.ErrOld)
	}
	r.Receive = api.Key{}
	for _, received := range []uint32{0, 6, bound} {
		for _, number := range []uint32{0, 5, 6, 7, 100, bound, math.MaxUint32} {
			r.Received = received
			refusesUnread(t, fmt.Sprint("no Receive, Number ", number), r, api.Header{Key: r.Peer, Number: number}, api.ErrOld)
		}
	}
}

// P17.3: a Key that is Peer but for one bit is a new one; of such a one no Number is old.
func TestOpenNearlyPeer(t *testing.T) {
	r := some(0)
	for _, bit := range []int{0, 9, 100, 254, 255} {
		k := r.Peer
		k[bit/8] ^= 1 << (bit % 8)
		for _, number := range []uint32{0, 5, 6} {
			opensCrafted(t, fmt.Sprint("bit ", bit, ", Number ", number), r, api.Header{Key: k, Number: number})
		}
	}
}

// P17.3: ErrLow of each low key, in each writing, whatever else is wrong: it is Peer and old, there is no Receive, there is no room.
func TestOpenLow(t *testing.T) {
	for _, low := range lowKeys() {
		for _, peer := range []api.Key{public(3), low} {
			for _, receive := range []api.Key{{}, keyNo(5)} {
				for _, number := range []uint32{0, 6, 9, 100, math.MaxUint32} {
					r := some(8)
					r.Peer, r.Receive = peer, receive
					refusesUnread(t, fmt.Sprintf("Key %x, Number %d", low, number), r, api.Header{Key: low, Prev: number, Number: number}, api.ErrLow)
				}
			}
		}
		r := some(0)
		r.Peer = low
		_, key := kdf.Step(r.Receive)
		opensNot(t, "a right body", r, textMessage(key, api.Header{Key: low, Number: 6}, "text"), api.ErrLow)
	}
}

// P17.3: with a Peer that is low messages of other keys are opened.
func TestOpenLowPeer(t *testing.T) {
	r := some(1)
	r.Peer = api.Key{1}
	opensCrafted(t, "a new key", r, api.Header{Key: public(8), Prev: 7, Number: 1})
	opensCrafted(t, "of the zero one", api.Ratchet{}, api.Header{Key: public(8), Prev: 7, Number: 8})
	refusesUnread(t, "of the zero one, the key of noughts", api.Ratchet{}, api.Header{}, api.ErrLow)
}

// P17.3: the order of errors: ErrOld ahead of ErrAuth where there is no room either; ErrSkip ahead of ErrAuth; ErrLow ahead of all of them (TestOpenLow), ErrRatchet ahead of that (TestRatchetAhead).
func TestOpenOrder(t *testing.T) {
	r := some(8)
	opensNot(t, "old, and no room", r, api.Message{Header: api.Header{Key: r.Peer, Prev: 100, Number: 5}}, api.ErrOld)
	opensNot(t, "no room, and a wrong body", r, api.Message{Header: api.Header{Key: r.Peer, Number: 7}}, api.ErrSkip)
	opensNot(t, "a new key, no room, and a wrong body", r, api.Message{Header: api.Header{Key: public(8), Prev: 7}}, api.ErrSkip)
	opensNot(t, "a wrong body", r, api.Message{Header: api.Header{Key: r.Peer, Number: 6}}, api.ErrAuth)
	opensNot(t, "a new key, and a wrong body", r, api.Message{Header: api.Header{Key: public(8), Prev: 6}}, api.ErrAuth)
	r.Receive = api.Key{}
	opensNot(t, "no Receive, and no room", r, api.Message{Header: api.Header{Key: r.Peer, Number: 7}}, api.ErrOld)
	opensNot(t, "no Receive, a new key, no room", r, api.Message{Header: api.Header{Key: public(8), Number: 1}}, api.ErrSkip)
}

// ways are messages that are opened in each of the three ways: by a key that was passed over, by the chain, by a turn.
func ways(r api.Ratchet) []api.Header {
	return []api.Header{{Key: r.Skipped[1].Key, Prev: 2, Number: r.Skipped[1].Number}, {Key: r.Peer, Prev: 2, Number: 7}, {Key: public(8), Prev: 7, Number: 1}}
}

// P17.3: ErrAuth of a body with each bit turned, and of a header that is another one than what was sealed.
func TestOpenChanged(t *testing.T) {
	r := some(3)
	for way, h := range ways(r) {
		m, behind := crafted(t, r, h, "as it was")
		opens(t, "as it was", r, m, keyNo(77), "as it was", behind)
		for bit := range 65 * 8 {
			other := m
			other.Body[bit/8] ^= 1 << (bit % 8)
			opensNot(t, fmt.Sprint("way ", way, ", bit ", bit), r, other, api.ErrAuth)
		}
		for _, prev := range []uint32{0, 1, 3, 4, 5, 6} {
			other := m
			other.Header.Prev = prev
			opensNot(t, fmt.Sprint("way ", way, ", Prev ", prev), r, other, api.ErrAuth)
		}
	}
	m, _ := crafted(t, r, ways(r)[2], "as it was")
	for bit := range 256 {
		other := m
		other.Header.Key[bit/8] ^= 1 << (bit % 8)
		opensNot(t, fmt.Sprint("Key, bit ", bit), r, other, api.ErrAuth)
	}
	for _, number := range []uint32{0, 2, 3, 4} {
		other := m
		other.Header.Number = number
		opensNot(t, fmt.Sprint("Number ", number), r, other, api.ErrAuth)
	}
}

// P17.3: what was sealed by another key, with another nonce, or with another ad.
func TestOpenSealedOtherwise(t *testing.T) {
	r := some(3)
	for way, h := range ways(r) {
		key, behind := keyOf(t, r, h, keyNo(77))
		next, _ := kdf.Step(behind.Receive)
		sealed := func(key api.Key, nonce uint64, ad []byte) api.Message {
			m := api.Message{Header: h}
			copy(m.Body[:], aead.Seal(key, aead.Count(nonce), ad, plainOf("text")))
			return m
		}
		for what, m := range map[string]api.Message{
			"the next key":         sealed(behind.Receive, 0, headerOf(h)),
			"the one behind":       sealed(next, 0, headerOf(h)),
			"the chain":            sealed(r.Receive, 0, headerOf(h)),
			"the nonce 1":          sealed(key, 1, headerOf(h)),
			"the Number as nonce":  sealed(key, uint64(h.Number), headerOf(h)),
			"no ad":                sealed(key, 0, nil),
			"the Key as ad":        sealed(key, 0, h.Key[:]),
			"a byte more as ad":    sealed(key, 0, append(headerOf(h), 0)),
			"another header as ad": sealed(key, 0, headerOf(api.Header{Key: h.Key, Prev: h.Number, Number: h.Prev})),
		} {
			opensNot(t, fmt.Sprint("way ", way, ", ", what), r, m, api.ErrAuth)
		}
		opens(t, "as the chapter says", r, sealed(key, 0, headerOf(h)), keyNo(77), "text", behind)
	}
}

// P17.3: bodies that open to bytes that are no text's: each count, each byte behind the text.
func TestOpenNoText(t *testing.T) {
	r := some(3)
	for way, h := range ways(r) {
		key, behind := keyOf(t, r, h, keyNo(77))
		for n := range 256 {
			plain := append([]byte{byte(n)}, strings.Repeat("x", min(n, 48))...)
			plain = append(plain, make([]byte, 49-len(plain))...)
			what := fmt.Sprint("way ", way, ", the count ", n)
			if n < 1 || n > 48 {
				opensNot(t, what, r, messageOf(key, h, plain), api.ErrAuth)
				plain = append([]byte{byte(n)}, make([]byte, 48)...)
				opensNot(t, what+", noughts", r, messageOf(key, h, plain), api.ErrAuth)
				continue
			}
			opens(t, what, r, messageOf(key, h, plain), keyNo(77), strings.Repeat("x", n), behind)
			for at := n + 1; at < 49; at++ {
				other := slices.Clone(plain)
				other[at] = 1 << (at % 8)
				opensNot(t, fmt.Sprint(what, ", no nought at ", at), r, messageOf(key, h, other), api.ErrAuth)
			}
		}
		opensNot(t, "a count of one less", r, messageOf(key, h, append([]byte("\x03text"), make([]byte, 44)...)), api.ErrAuth)
		opens(t, "a count of one more", r, messageOf(key, h, append([]byte("\x05text"), make([]byte, 44)...)), keyNo(77), "text\x00", behind)
		opens(t, "noughts", r, messageOf(key, h, append([]byte{7}, make([]byte, 48)...)), keyNo(77), strings.Repeat("\x00", 7), behind)
		opens(t, "no UTF-8", r, textMessage(key, h, "\xff\xc0\x80"), keyNo(77), "\xff\xc0\x80", behind)
	}
}

// P17.3: bodies that were sealed with other lengths, cut or filled up.
func TestOpenOtherLengths(t *testing.T) {
	r := some(3)
	for way, h := range ways(r) {
		key, _ := keyOf(t, r, h, keyNo(77))
		for n := range 120 {
			plain := append(plainOf("text"), make([]byte, 100)...)[:n]
			if n != 49 {
				opensNot(t, fmt.Sprint("way ", way, ", ", n, " bytes"), r, messageOf(key, h, plain), api.ErrAuth)
			}
		}
	}
}
