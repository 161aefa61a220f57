package ratchet_test

import (
	"encoding/hex"
	"math/big"
	"math/rand"
	"slices"
	"strings"
	"testing"

	"hollowtree/api"
	"hollowtree/curve"
	"hollowtree/frame"
	"hollowtree/ident"
	"hollowtree/ratchet"
	"hollowtree/sha"
)

// keyNo is one of many keys, all unlike; none of the tests' is low.
func keyNo(n int) api.Key { return sha.Sum([]byte{'k', byte(n), byte(n >> 8), byte(n >> 16)}) }

// public is the public key of keyNo.
func public(n int) api.Key { return curve.Public(keyNo(n)) }

// filled is a key of one byte, 32 times.
func filled(c byte) api.Key {
	var k api.Key
	for i := range k {
		k[i] = c
	}
	return k
}

func drawn(r *rand.Rand) api.Key {
	var k api.Key
	r.Read(k[:])
	return k
}

// lowKeys are the five places of chapter 3, in all their writings: with p added, where that is below 2^255, and with the highest bit.
func lowKeys() []api.Key {
	power := new(big.Int).Lsh(big.NewInt(1), 255)
	p := new(big.Int).Sub(power, big.NewInt(19))
	var list []api.Key
	for _, digits := range []string{
		"0", "1", new(big.Int).Sub(p, big.NewInt(1)).String(),
		"325606250916557431795983626356110631294008115727848805560023387167927233504",
		"39382357235489614581723060781553021112529911719440698176882885853963445705823",
	} {
		x, _ := new(big.Int).SetString(digits, 10)
		for _, y := range []*big.Int{x, new(big.Int).Add(x, p)} {
			if y.Cmp(power) < 0 {
				list = append(list, numberKey(y), numberKey(new(big.Int).Add(y, power)))
			}
		}
	}
	return list
}

// numberKey is a number's key, the lowest byte first.
func numberKey(x *big.Int) api.Key {
	var k api.Key
	x.FillBytes(k[:])
	slices.Reverse(k[:])
	return k
}

// copyOf is a ratchet with a list of its own.
func copyOf(r api.Ratchet) api.Ratchet {
	r.Skipped = append([]api.Skip(nil), r.Skipped...)
	return r
}

// alike holds two ratchets against each other, field by field.
func alike(a, b api.Ratchet) bool {
	keys := func(r api.Ratchet) []api.Key { return []api.Key{r.Root, r.Own, r.Peer, r.Send, r.Receive} }
	numbers := func(r api.Ratchet) []uint32 { return []uint32{r.Sent, r.Received, r.Before} }
	return slices.Equal(keys(a), keys(b)) && slices.Equal(numbers(a), numbers(b)) && slices.Equal(a.Skipped, b.Skipped)
}

// some is a ratchet whose fields are all unlike, with n keys that were passed over, of other ratchet keys than Peer.
func some(n int) api.Ratchet {
	r := api.Ratchet{Root: keyNo(1), Own: keyNo(2), Peer: keyNo(3), Send: keyNo(4), Receive: keyNo(5), Sent: 11, Received: 6, Before: 4}
	for i := range n {
		r.Skipped = append(r.Skipped, api.Skip{Key: keyNo(100 + i/2), Number: uint32(3 + i), Secret: keyNo(200 + i)})
	}
	return r
}

// opens looks for a text, and the ratchet behind it.
func opens(t *testing.T, what string, r api.Ratchet, m api.Message, fresh api.Key, text string, want api.Ratchet) {
	t.Helper()
	got, s, err := ratchet.Open(r, m, fresh)
	if err != api.OK || s != text {
		t.Errorf("%s: %q, %d; not %q", what, s, err, text)
	} else if !alike(got, want) {
		t.Errorf("%s: the ratchet behind it is %v, not %v", what, got, want)
	}
}

// opensNot looks for an error, and nothing beside it.
func opensNot(t *testing.T, what string, r api.Ratchet, m api.Message, want api.Errno) {
	t.Helper()
	got, s, err := ratchet.Open(r, m, keyNo(77))
	if err != want || s != "" || !alike(got, api.Ratchet{}) {
		t.Errorf("%s: %v, %q, %d; not %d", what, got, s, err, want)
	}
}

// side is one of two that begin with each other; what it needs that is fresh comes of its own numbers.
type side struct {
	r     api.Ratchet
	fresh int
}

func (s *side) next() api.Key {
	s.fresh++
	return keyNo(s.fresh)
}

func (s *side) seal(t *testing.T, text string) api.Message {
	t.Helper()
	r, m, err := ratchet.Seal(s.r, text)
	if err != api.OK {
		t.Fatalf("Seal of %q: %d", text, err)
	}
	s.r = r
	return m
}

// open goes on behind a message, if it opens.
func (s *side) open(m api.Message) (string, api.Errno) {
	r, text, err := ratchet.Open(s.r, m, s.next())
	if err == api.OK {
		s.r = r
	}
	return text, err
}

// hears looks for a text.
func (s *side) hears(t *testing.T, m api.Message, want string) {
	t.Helper()
	if text, err := s.open(m); text != want || err != api.OK {
		t.Errorf("%q, %d; not %q", text, err, want)
	}
}

// refuses looks for an error, and nothing beside it.
func (s *side) refuses(t *testing.T, m api.Message, want api.Errno) {
	t.Helper()
	opensNot(t, "a message", s.r, m, want)
}

// two begin with each other, the first one ahead; of each n they are others.
func two(t *testing.T, n int) (*side, *side) {
	t.Helper()
	a, b := keyNo(1000+2*n), keyNo(1001+2*n)
	p, _ := ident.Pair(a, curve.Public(b))
	q, _ := ident.Pair(b, curve.Public(a))
	if q.First {
		a, b, p, q = b, a, q, p
	}
	one, other := &side{fresh: 20000 * (n + 1)}, &side{fresh: 20000*(n+1) + 10000}
	var err, wrong api.Errno
	one.r, err = ratchet.Start(p, a, curve.Public(b), one.next())
	other.r, wrong = ratchet.Start(q, b, curve.Public(a), other.next())
	if err != api.OK || wrong != api.OK || p.Secret != q.Secret || !p.First || q.First {
		t.Fatalf("they do not begin: %d, %d, %v, %v", err, wrong, p, q)
	}
	return one, other
}

// P17.2, P17.3: the chapter's examples, row by row.
func TestExamples(t *testing.T) {
	a, b := two(t, 0)
	list := []api.Message{a.seal(t, "1"), a.seal(t, "2"), a.seal(t, "3")}
	b.hears(t, list[1], "2")
	b.hears(t, list[0], "1")
	b.hears(t, list[2], "3")
	b.refuses(t, list[1], api.ErrOld)

	a, b = two(t, 1)
	a.hears(t, b.seal(t, "4"), "4")

	a, b = two(t, 2)
	var m api.Message
	for range 10 {
		m = a.seal(t, "ten")
	}
	b.refuses(t, m, api.ErrSkip)

	for _, n := range []int{0, 49} {
		if r, m, err := ratchet.Seal(a.r, strings.Repeat("x", n)); err != api.ErrArg || m != (api.Message{}) || !alike(r, api.Ratchet{}) {
			t.Errorf("Seal of %d bytes: %v, %v, %d", n, r, m, err)
		}
	}

	a, b = two(t, 3)
	m = a.seal(t, "turned")
	for at := range m.Body {
		other := m
		other.Body[at] ^= 1
		b.refuses(t, other, api.ErrAuth)
	}
	b.hears(t, m, "turned")
}

// P17.1 to P17.4: two that begin, seal, open in another order and turn, as another program did by the chapter's words.
func TestKnown(t *testing.T) {
	var a, b api.Key
	for i := range a {
		a[i], b[i] = byte(1+i), byte(101+i)
	}
	p, _ := ident.Pair(a, curve.Public(b))
	q, _ := ident.Pair(b, curve.Public(a))
	one, err := ratchet.Start(p, a, curve.Public(b), filled(1))
	other, wrong := ratchet.Start(q, b, curve.Public(a), filled(2))
	if err != api.OK || wrong != api.OK {
		t.Fatal(err, wrong)
	}
	isKnown(t, "the first one", one, "442190fe1fb5f7cf31823d1534eecfe39a197dd881b000f364289c9b8049c07001010101010101010101010101010101010101010101010101010101010101015714769d116bf76436ae74bc793d2c30ad1903c59ac5273805c7e2698b410c3652866789bd18d49828a2cded644586c1a0324a73084cd27548f850cc46ea4d1b5b1048ffd8f625ed4a07de741b9839896e5b083c7e49e7381dfd19f9180f0508", nil)
	isKnown(t, "the second one", other, "0995e24b15e3dd6ecebf0db95d80bdeac0730935956870cd8958829227ec578865666768696a6b6c6d6e6f707172737475767778797a7b7c7d7e7f808182838407a37cbc142093c8b755dc1b10e86cb426374ad16aa853ed0bdfc0b2b86d1c7c5b1048ffd8f625ed4a07de741b9839896e5b083c7e49e7381dfd19f9180f05080000000000000000000000000000000000000000000000000000000000000000", nil)

	one, m := sealsKnown(t, one, "hi", "a4e09292b651c278b9772c569f5fa9bb13d906b46ab68c9df9dc2b4409f8a20900000000000000008d51b7d940ee1eb3e119dc1e5715a836ffea7d31f4552c2881e50f78279257e58a563f39cf53790c83f7aa26fd373ad63226079602c8efa5b10514e1bd0a1c542a")
	hashes(t, one, "73528ca94d575baf21c08ee51c6509aa12da9b5b9a01ebcf71b0dc3b2175df75")
	other, ahead := sealsAll(t, other, "ahead 0", "ahead 1", "ahead 2")
	other = opensKnown(t, other, m, filled(3), "hi", "0ae8853cc050abfbb03c6353cf3e2995e30d0d6fb83dad7e85796c97e911c8c5")
	isKnown(t, "the second one, turned", other, "2e3f2163cdd9af321839c433d1b35c078987e01ad71b37cd6d5436d42114ac1a0303030303030303030303030303030303030303030303030303030303030303a4e09292b651c278b9772c569f5fa9bb13d906b46ab68c9df9dc2b4409f8a2095d8785a64b9f3a7a50b864f6b5a06dbd16de4ac1b03539099c4eb4cd8e74ebe7e49e8858e14d5516fe37aef8f92f001a8249b17c63bd03e75b7ad5c2c6f31257", []uint32{0, 1, 3})
	one = opensKnown(t, one, ahead[2], filled(4), "ahead 2", "eefa1030e9b23fc55802f410c5d0001a422730ec4d04bba330b24a1ba075160b")
	other, behind := sealsAll(t, other, "turned 0", "turned 1", "turned 2")
	one = opensKnown(t, one, behind[1], filled(5), "turned 1", "7f6192ce2a69aabfa73f5c8c0bca978edd40c66ddb74f8a2ef50852f1907bcc5")
	one = opensKnown(t, one, ahead[0], filled(6), "ahead 0", "0ec32bd6e5d087fca215b20d1942092d127285d0959c84923738fed571a8db6b")
	one, m = sealsKnown(t, one, strings.Repeat("x", 48), "50a61409b1ddd0325e9b16b700e719e9772c07000b1bd7786e907c653d20495d010000000000000002c5a4ae555d35741b25af52e1bf6d4b432a75577846ef0b5d3cf9f84c421616712ebfd05f3ca6522c4e304dca4f3f3a00b4096d2308e079daa6eae87e9bc92934")
	opensKnown(t, other, m, filled(7), strings.Repeat("x", 48), "149a6c8eacbce13a55323d104b70001b5ceec5711056b0d8c76379f62f71b066")
	opensKnown(t, one, behind[0], filled(8), "turned 0", "eefbf35a8adbaa46f58c84ef2a815c888911c0ddd668724c6db649c07619c75e")
}

// isKnown holds the five keys, as digits, and the numbers of a ratchet without keys that were passed over.
func isKnown(t *testing.T, what string, r api.Ratchet, digits string, numbers []uint32) {
	t.Helper()
	b := slices.Concat(r.Root[:], r.Own[:], r.Peer[:], r.Send[:], r.Receive[:])
	if numbers == nil {
		numbers = []uint32{0, 0, 0}
	}
	if hex.EncodeToString(b) != digits || !slices.Equal([]uint32{r.Sent, r.Received, r.Before}, numbers) || len(r.Skipped) != 0 {
		t.Errorf("%s: %x, %d %d %d, %v", what, b, r.Sent, r.Received, r.Before, r.Skipped)
	}
}

// hashes holds the hash of a ratchet's bytes.
func hashes(t *testing.T, r api.Ratchet, digits string) {
	t.Helper()
	b, err := ratchet.Put(r)
	if sum := sha.Sum(b); err != api.OK || hex.EncodeToString(sum[:]) != digits {
		t.Errorf("Put: %x, %d", b, err)
	}
}

// sealsKnown holds a message's bytes.
func sealsKnown(t *testing.T, r api.Ratchet, text, digits string) (api.Ratchet, api.Message) {
	t.Helper()
	r, m, err := ratchet.Seal(r, text)
	if b := frame.PutMessage(m); err != api.OK || hex.EncodeToString(b) != digits {
		t.Errorf("Seal of %q: %x, %d", text, b, err)
	}
	return r, m
}

func sealsAll(t *testing.T, r api.Ratchet, texts ...string) (api.Ratchet, []api.Message) {
	t.Helper()
	var list []api.Message
	for _, text := range texts {
		behind, m, err := ratchet.Seal(r, text)
		if err != api.OK {
			t.Fatalf("Seal of %q: %d", text, err)
		}
		r, list = behind, append(list, m)
	}
	return r, list
}

// opensKnown holds a text, and the hash of the bytes of the ratchet behind it.
func opensKnown(t *testing.T, r api.Ratchet, m api.Message, fresh api.Key, text, digits string) api.Ratchet {
	t.Helper()
	r, s, err := ratchet.Open(r, m, fresh)
	if s != text || err != api.OK {
		t.Errorf("Open: %q, %d; not %q", s, err, text)
	}
	hashes(t, r, digits)
	return r
}

// R5: what is asked twice is answered twice the same.
func TestTwice(t *testing.T) {
	a, b := two(t, 4)
	again, _ := two(t, 4)
	if !alike(a.r, again.r) {
		t.Errorf("Start: %v, then %v", a.r, again.r)
	}
	r, m, _ := ratchet.Seal(a.r, "twice")
	for range 3 {
		other, n, err := ratchet.Seal(a.r, "twice")
		if !alike(r, other) || m != n || err != api.OK {
			t.Errorf("Seal: %v, %v, then %v, %v", r, m, other, n)
		}
	}
	r, _, _ = ratchet.Open(b.r, m, keyNo(9))
	for range 3 {
		opens(t, "once more", b.r, m, keyNo(9), "twice", r)
	}
}
