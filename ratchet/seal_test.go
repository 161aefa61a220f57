package ratchet_test

import (
	"bytes"
	"math"
	"math/rand"
	"strings"
	"testing"

	"hollowtree/aead"
	"hollowtree/api"
	"hollowtree/curve"
	"hollowtree/kdf"
	"hollowtree/ratchet"
)

// seals holds the message, and the ratchet behind it, against the chapter's words.
func seals(t *testing.T, r api.Ratchet, text string) (api.Ratchet, api.Message) {
	t.Helper()
	got, m, err := ratchet.Seal(r, text)
	behind, want := sealOf(r, text)
	if err != api.OK || m != want || !alike(got, behind) {
		t.Errorf("Seal of %q: %v, %v, %d; not %v, %v", text, got, m, err, behind, want)
	}
	return got, m
}

// sealsNot looks for an error, and nothing beside it.
func sealsNot(t *testing.T, what string, r api.Ratchet, text string, want api.Errno) {
	t.Helper()
	if got, m, err := ratchet.Seal(r, text); err != want || m != (api.Message{}) || !alike(got, api.Ratchet{}) {
		t.Errorf("%s: %v, %v, %d; not %d", what, got, m, err, want)
	}
}

// P17.2: the Header and the Body, byte for byte, and the ratchet behind it, field by field.
func TestSealFields(t *testing.T) {
	r := some(3)
	got, m, err := ratchet.Seal(r, "hollow")
	if err != api.OK {
		t.Fatal(err)
	}
	if m.Header.Key != curve.Public(r.Own) || m.Header.Prev != r.Before || m.Header.Number != r.Sent {
		t.Errorf("the Header: %v", m.Header)
	}
	next, key := kdf.Step(r.Send)
	ad := append(bytes.Clone(m.Header.Key[:]), 4, 0, 0, 0, 11, 0, 0, 0)
	plain := append([]byte("\x06hollow"), make([]byte, 42)...)
	if want := aead.Seal(key, api.Nonce{}, ad, plain); !bytes.Equal(m.Body[:], want) {
		t.Errorf("the Body: % x, not % x", m.Body, want)
	}
	if got.Send != next || got.Sent != 12 {
		t.Errorf("Send %x, Sent %d; not %x, 12", got.Send, got.Sent, next)
	}
	got.Send, got.Sent = r.Send, r.Sent
	if !alike(got, r) {
		t.Errorf("more has changed: %v, not %v", got, r)
	}
}

// P17.2: texts of each length that may be, and of others.
func TestSealLengths(t *testing.T) {
	for n := 1; n <= 48; n++ {
		seals(t, some(0), strings.Repeat("x", n))
	}
	for _, n := range []int{0, 49, 50, 65, 255, 256, 257, 256 + 48, 65536, 65537, 1 << 20} {
		sealsNot(t, "a text of another length", some(2), strings.Repeat("x", n), api.ErrArg)
	}
	if api.MaxText != 48 {
		t.Errorf("MaxText is %d", api.MaxText)
	}
}

// P17.2: texts of whatever bytes: noughts, at the end too, and such as are no UTF-8.
func TestSealBytes(t *testing.T) {
	for c := range 256 {
		seals(t, some(1), string([]byte{byte(c)}))
		seals(t, some(1), "a"+strings.Repeat(string([]byte{byte(c)}), 46)+"z")
		seals(t, some(1), strings.Repeat(string([]byte{byte(c)}), 48))
	}
	seals(t, some(1), "\x00")
	seals(t, some(1), "a\x00\x00")
	seals(t, some(1), "\u00e4\u20ac\U0001f333")
}

// P17.2: ErrLong behind 2^31 messages, and without a chain; just ahead of that there is one more.
func TestSealLong(t *testing.T) {
	r := some(2)
	r.Sent = bound
	sealsNot(t, "Sent of 2^31", r, "text", api.ErrLong)
	r.Sent = bound - 1
	behind, _ := seals(t, r, "text")
	sealsNot(t, "behind the last one", behind, "text", api.ErrLong)
	for _, sent := range []uint32{0, 1, 255, 256, 65536, math.MaxInt32 - 1} {
		r.Sent = sent
		seals(t, r, "text")
	}
	for _, sent := range []uint32{0, 7, bound - 1, bound} {
		r := some(2)
		r.Sent, r.Send = sent, api.Key{}
		sealsNot(t, "no Send", r, "text", api.ErrLong)
	}
	sealsNot(t, "the zero one", api.Ratchet{}, "text", api.ErrLong)
}

// P17.2: the order of errors: ErrArg ahead of ErrLong (ErrRatchet ahead of both: TestRatchetAhead).
func TestSealOrder(t *testing.T) {
	for _, n := range []int{0, 49} {
		text := strings.Repeat("x", n)
		for _, send := range []api.Key{{}, keyNo(4)} {
			for _, sent := range []uint32{0, bound} {
				r := some(8)
				r.Send, r.Sent = send, sent
				sealsNot(t, "several reasons", r, text, api.ErrArg)
			}
		}
		sealsNot(t, "the zero one", api.Ratchet{}, text, api.ErrArg)
	}
}

// P17.2: a chain is there if it is no noughts, whichever of its bits is 1.
func TestSealAnyChain(t *testing.T) {
	for bit := range 256 {
		r := some(0)
		r.Send = api.Key{}
		r.Send[bit/8] = 1 << (bit % 8)
		seals(t, r, "text")
	}
}

// P17.2: what does not matter: no Receive, Received and Before at their limits, MaxSkip keys, an Own or a Root of noughts.
func TestSealWhatever(t *testing.T) {
	r := some(8)
	r.Receive, r.Received, r.Before = api.Key{}, bound, bound
	seals(t, r, "text")
	r.Own, r.Root, r.Peer = api.Key{}, api.Key{}, api.Key{}
	seals(t, r, "text")
	r.Own = filled(0xff)
	seals(t, r, "text")
}

// P17.2: one behind the other, of drawn ratchets and texts: no two of one chain have one key.
func TestSealRow(t *testing.T) {
	d := rand.New(rand.NewSource(18))
	for range 20 {
		r := some(d.Intn(9))
		r.Own, r.Send, r.Before, r.Sent = drawn(d), drawn(d), d.Uint32()>>1, d.Uint32()>>2
		seen := map[[65]byte]int{}
		for range 5 {
			var m api.Message
			r, m = seals(t, r, "the same text")
			seen[m.Body]++
		}
		if len(seen) != 5 {
			t.Errorf("%d bodies of 5 messages", len(seen))
		}
		text := make([]byte, 1+d.Intn(48))
		d.Read(text)
		seals(t, r, string(text))
	}
}
