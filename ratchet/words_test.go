package ratchet_test

import (
	"bytes"
	"encoding/binary"
	"testing"

	"hollowtree/aead"
	"hollowtree/api"
	"hollowtree/curve"
	"hollowtree/kdf"
)

// The chapter's words, told once more in the tests' own way, over kdf, curve and aead.

const bound = 1 << 31

// mayBe: a ratchet that may be.
func mayBe(r api.Ratchet) bool {
	seen := map[api.Skip]int{}
	for _, s := range r.Skipped {
		s.Secret = api.Key{}
		seen[s]++
	}
	return len(r.Skipped) <= 8 && len(seen) == len(r.Skipped) && r.Sent <= bound && r.Received <= bound && r.Before <= bound
}

// agreed is what a secret and a key agree upon.
func agreed(t *testing.T, secret, key api.Key) api.Key {
	t.Helper()
	shared, err := curve.Agree(secret, key)
	if err != api.OK {
		t.Fatalf("Agree of %x and %x: %d", secret, key, err)
	}
	return shared
}

// firstOf and secondOf: to begin, as the first one and as the second one.
func firstOf(t *testing.T, pair, peer, fresh api.Key) api.Ratchet {
	t.Helper()
	root, _ := kdf.Two(pair, "ratchet")
	shared := agreed(t, fresh, peer)
	r := api.Ratchet{Own: fresh, Peer: peer, Receive: kdf.Derive(pair, "second")}
	r.Root, r.Send = kdf.Two(root, "turn", shared[:])
	return r
}

func secondOf(pair, secret, peer api.Key) api.Ratchet {
	root, _ := kdf.Two(pair, "ratchet")
	return api.Ratchet{Root: root, Own: secret, Peer: peer, Send: kdf.Derive(pair, "second")}
}

// headerOf are a Header's bytes.
func headerOf(h api.Header) []byte {
	b := bytes.Clone(h.Key[:])
	b = binary.LittleEndian.AppendUint32(b, h.Prev)
	return binary.LittleEndian.AppendUint32(b, h.Number)
}

// plainOf is a text, filled up.
func plainOf(text string) []byte {
	b := append([]byte{byte(len(text))}, text...)
	return append(b, make([]byte, 49-len(b))...)
}

// messageOf is a message of that header, sealed with a message's key, of whatever plain bytes; what has not 65 bytes is cut, or filled up with noughts.
func messageOf(key api.Key, h api.Header, plain []byte) api.Message {
	m := api.Message{Header: h}
	copy(m.Body[:], aead.Seal(key, aead.Count(0), headerOf(h), plain))
	return m
}

func textMessage(key api.Key, h api.Header, text string) api.Message {
	return messageOf(key, h, plainOf(text))
}

// sealOf: a message of a text, and the ratchet behind it.
func sealOf(r api.Ratchet, text string) (api.Ratchet, api.Message) {
	next, key := kdf.Step(r.Send)
	m := textMessage(key, api.Header{Key: curve.Public(r.Own), Prev: r.Before, Number: r.Sent}, text)
	behind := copyOf(r)
	behind.Send = next
	behind.Sent++
	return behind, m
}

// passedOf: Receive is passed over up to n.
func passedOf(r api.Ratchet, n uint32) api.Ratchet {
	r = copyOf(r)
	for r.Received < n && r.Receive != (api.Key{}) {
		next, key := kdf.Step(r.Receive)
		r.Skipped = append(r.Skipped, api.Skip{Key: r.Peer, Number: r.Received, Secret: key})
		r.Receive, r.Received = next, r.Received+1
	}
	return r
}

// turnOf: to turn by a key, with a fresh secret.
func turnOf(t *testing.T, r api.Ratchet, key, fresh api.Key) api.Ratchet {
	t.Helper()
	r = copyOf(r)
	r.Before, r.Sent, r.Received, r.Peer = r.Sent, 0, 0, key
	shared := agreed(t, r.Own, key)
	r.Root, r.Receive = kdf.Two(r.Root, "turn", shared[:])
	r.Own = fresh
	shared = agreed(t, fresh, key)
	r.Root, r.Send = kdf.Two(r.Root, "turn", shared[:])
	return r
}

// keyOf is the key of the message with that header, and the ratchet behind it; nothing is asked but whether it was passed over.
func keyOf(t *testing.T, r api.Ratchet, h api.Header, fresh api.Key) (api.Key, api.Ratchet) {
	t.Helper()
	r = copyOf(r)
	for i, s := range r.Skipped {
		if s.Key == h.Key && s.Number == h.Number {
			r.Skipped = append(r.Skipped[:i], r.Skipped[i+1:]...)
			return s.Secret, r
		}
	}
	if h.Key != r.Peer {
		r = turnOf(t, passedOf(r, h.Prev), h.Key, fresh)
	}
	r = passedOf(r, h.Number)
	next, key := kdf.Step(r.Receive)
	r.Receive, r.Received = next, r.Received+1
	return key, r
}

// errorOf is what P17.3 refuses a message with ahead of its body.
func errorOf(r api.Ratchet, h api.Header) api.Errno {
	if !mayBe(r) {
		return api.ErrRatchet
	}
	for _, s := range r.Skipped {
		if s.Key == h.Key && s.Number == h.Number {
			return api.OK
		}
	}
	count, received := int64(len(r.Skipped))+int64(h.Number), int64(r.Received)
	if h.Key == r.Peer {
		count -= received
	} else if r.Receive != (api.Key{}) && int64(h.Prev) > received {
		count += int64(h.Prev) - received
	}
	if curve.Low(h.Key) {
		return api.ErrLow
	}
	if h.Key == r.Peer && (r.Receive == api.Key{} || int64(h.Number) < received) {
		return api.ErrOld
	}
	if count > 8 {
		return api.ErrSkip
	}
	return api.OK
}

// openOf: to open a message.
func openOf(t *testing.T, r api.Ratchet, m api.Message, fresh api.Key) (api.Ratchet, string, api.Errno) {
	t.Helper()
	if err := errorOf(r, m.Header); err != api.OK {
		return api.Ratchet{}, "", err
	}
	key, behind := keyOf(t, r, m.Header, fresh)
	plain, err := aead.Open(key, aead.Count(0), headerOf(m.Header), m.Body[:])
	if err != api.OK || plain[0] < 1 || plain[0] > 48 || !bytes.Equal(plain, plainOf(string(plain[1:1+plain[0]]))) {
		return api.Ratchet{}, "", api.ErrAuth
	}
	return behind, string(plain[1 : 1+plain[0]]), api.OK
}

// bytesOf are a ratchet's bytes.
func bytesOf(r api.Ratchet) []byte {
	var b []byte
	for _, k := range []api.Key{r.Root, r.Own, r.Peer, r.Send, r.Receive} {
		b = append(b, k[:]...)
	}
	for _, n := range []uint32{r.Sent, r.Received, r.Before} {
		b = binary.LittleEndian.AppendUint32(b, n)
	}
	b = append(b, byte(len(r.Skipped)))
	for _, s := range r.Skipped {
		b = binary.LittleEndian.AppendUint32(append(b, s.Key[:]...), s.Number)
		b = append(b, s.Secret[:]...)
	}
	return append(b, make([]byte, 717-len(b))...)
}
