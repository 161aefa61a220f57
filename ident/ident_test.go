package ident_test

import (
	"bytes"
	"encoding/binary"
	"encoding/hex"
	"math"
	"math/big"
	"math/rand"
	"slices"
	"strings"
	"testing"

	"hollowtree/api"
	"hollowtree/curve"
	"hollowtree/ident"
	"hollowtree/kdf"
)

// filled is a key of one byte, 32 times.
func filled(c byte) api.Key { return api.Key(bytes.Repeat([]byte{c}, 32)) }

// unlike is a key whose bytes are all unlike.
func unlike() api.Key {
	var k api.Key
	for i := range k {
		k[i] = byte(0x1f + 37*i)
	}
	return k
}

func drawn(r *rand.Rand) api.Key {
	var k api.Key
	r.Read(k[:])
	return k
}

func someDrawn(seed int64, n int) []api.Key {
	r := rand.New(rand.NewSource(seed))
	var list []api.Key
	for range n {
		list = append(list, drawn(r))
	}
	return list
}

// with is the key with another byte at one place.
func with(k api.Key, at int, c byte) api.Key {
	k[at] = c
	return k
}

func low64(x uint64) []byte { return binary.LittleEndian.AppendUint64(nil, x) }

// rounds are at the edges, and such as tell the order of a number's bytes.
func rounds() []uint64 {
	return []uint64{0, 1, 2, 7, 255, 256, 1 << 32, 1 << 56, 0x0807060504030201, math.MaxInt64, 1 << 63, math.MaxUint64 - 1, math.MaxUint64}
}

// lowKeys are the five places of chapter 3, in all their writings: with p added, where that is below 2^255, and with the highest bit.
func lowKeys() []api.Key {
	power := new(big.Int).Lsh(big.NewInt(1), 255)
	p := new(big.Int).Sub(power, big.NewInt(19))
	var list []api.Key
	for _, decimal := range []string{
		"0", "1", new(big.Int).Sub(p, big.NewInt(1)).String(),
		"325606250916557431795983626356110631294008115727848805560023387167927233504",
		"39382357235489614581723060781553021112529911719440698176882885853963445705823",
	} {
		x, _ := new(big.Int).SetString(decimal, 10)
		for _, y := range []*big.Int{x, new(big.Int).Add(x, p)} {
			if y.Cmp(power) < 0 {
				list = append(list, keyOf(y), keyOf(new(big.Int).Add(y, power)))
			}
		}
	}
	return list
}

// keyOf is a number's key, the lowest byte first.
func keyOf(x *big.Int) api.Key {
	var k api.Key
	x.FillBytes(k[:])
	slices.Reverse(k[:])
	return k
}

// digits is the key that the text stands for.
func digits(t *testing.T, text string) api.Key {
	t.Helper()
	b, err := hex.DecodeString(text)
	if err != nil || len(b) != 32 {
		t.Fatalf("%q, %v", text, err)
	}
	return api.Key(b)
}

// pairOf is what two share, by the chapter's words.
func pairOf(t *testing.T, secret, peer api.Key) api.Pair {
	t.Helper()
	own := curve.Public(secret)
	common, err := curve.Agree(secret, peer)
	if err != api.OK {
		t.Fatalf("Agree of %x and %x: %d", secret, peer, err)
	}
	if bytes.Compare(own[:], peer[:]) < 0 {
		return api.Pair{Secret: kdf.Derive(common, "pair", own[:], peer[:]), First: true}
	}
	return api.Pair{Secret: kdf.Derive(common, "pair", peer[:], own[:])}
}

// pairs holds what Pair answers against the chapter's words, and hands it on.
func pairs(t *testing.T, secret, peer api.Key) api.Pair {
	t.Helper()
	p, err := ident.Pair(secret, peer)
	if want := pairOf(t, secret, peer); p != want || err != api.OK {
		t.Errorf("Pair of %x and %x: %v, %d; not %v", secret, peer, p, err, want)
	}
	return p
}

// pairsNot looks for an error, and nothing beside it.
func pairsNot(t *testing.T, secret, peer api.Key, want api.Errno) {
	t.Helper()
	if p, err := ident.Pair(secret, peer); p != (api.Pair{}) || err != want {
		t.Errorf("Pair of %x and %x: %v, %d; not %d", secret, peer, p, err, want)
	}
}

// isKey looks for a key, and the zero Spot beside it.
func isKey(t *testing.T, text string, want api.Key) {
	t.Helper()
	if k, spot := ident.Key(text); k != want || spot != (api.Spot{}) {
		t.Errorf("Key of %q: %x, %v; not %x", text, k, spot, want)
	}
}

// isNoKey looks for ErrKey at a place, and the key of noughts beside it.
func isNoKey(t *testing.T, text string, at int) {
	t.Helper()
	if k, spot := ident.Key(text); k != (api.Key{}) || spot != (api.Spot{Err: api.ErrKey, At: at}) {
		t.Errorf("Key of %q: %x, %v; not at %d", text, k, spot, at)
	}
}

// isName looks for what Name answers.
func isName(t *testing.T, text string, want bool) {
	t.Helper()
	if ident.Name(text) != want {
		t.Errorf("Name of %q: %v", text, !want)
	}
}

// P16.1, P16.2: the chapter's examples, row by row.
func TestExamples(t *testing.T) {
	isName(t, "a-1", true)
	isName(t, "", false)
	isName(t, "A", false)
	isName(t, strings.Repeat("a", 17), false)

	noughts := strings.Repeat("0", 64)
	if text := ident.Text(api.Key{}); text != noughts {
		t.Errorf("Text of noughts: %q", text)
	}
	if text := ident.Text(api.Key{1}); text != "01"+noughts[2:] {
		t.Errorf("Text of 01 and noughts: %q", text)
	}

	isNoKey(t, noughts[1:], 63)
	isNoKey(t, noughts+"x", 64)
	isNoKey(t, "00g"+noughts[3:], 2)
	isNoKey(t, "00g", 2)
	isNoKey(t, "0A"+noughts[2:], 1)
	isNoKey(t, "0A", 1)

	if text := ident.Fingerprint(api.Key{}); text != "6668-7aad-f862-bd77" {
		t.Errorf("Fingerprint of noughts: %q", text)
	}

	for _, s := range append(someDrawn(1, 5), api.Key{}, filled(0xff), unlike()) {
		pairsNot(t, s, curve.Public(s), api.ErrOwn)
		pairsNot(t, s, api.Key{}, api.ErrLow)
	}

	if !ident.Less(api.Key{1}, api.Key{2}) {
		t.Error("01 is not less than 02")
	}
	for _, k := range append(someDrawn(2, 5), api.Key{}, api.Key{1}, filled(0xff)) {
		if ident.Less(k, k) {
			t.Errorf("%x is less than itself", k)
		}
	}
}

// R5: what is asked twice is answered twice the same.
func TestTwice(t *testing.T) {
	s, peer := unlike(), curve.Public(filled(3))
	one, _ := ident.Pair(s, peer)
	for range 3 {
		other, _ := ident.Pair(s, peer)
		if other != one || ident.Drop(other, 7) != ident.Drop(one, 7) || ident.RoundKey(other, 7, true) != ident.RoundKey(one, 7, true) {
			t.Errorf("%v, then %v", one, other)
		}
		if ident.Text(s) != ident.Text(s) || ident.Fingerprint(s) != ident.Fingerprint(s) {
			t.Error("texts are unlike")
		}
	}
}
