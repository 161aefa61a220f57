package ident_test

import (
	"bytes"
	"math/rand"
	"slices"
	"testing"

	"hollowtree/api"
	"hollowtree/curve"
	"hollowtree/ident"
)

// P16.4: Key of Text is the key; Text of Key the text.
func TestTextsThereAndBack(t *testing.T) {
	for _, k := range append(someDrawn(13, 2000), api.Key{}, api.Key{1}, api.Key{31: 1}, filled(0xff), unlike()) {
		isKey(t, ident.Text(k), k)
	}
	r := rand.New(rand.NewSource(14))
	for range 2000 {
		b := make([]byte, 64)
		for i := range b {
			b[i] = sixteen[r.Intn(16)]
		}
		k, spot := ident.Key(string(b))
		if spot != (api.Spot{}) || ident.Text(k) != string(b) {
			t.Errorf("Text of Key of %q: %q, %v", b, ident.Text(k), spot)
		}
	}
}

// two are the pairs that each of two secrets makes with the other one's public key.
func two(t *testing.T, a, b api.Key) (api.Pair, api.Pair) {
	t.Helper()
	p, err := ident.Pair(a, curve.Public(b))
	q, other := ident.Pair(b, curve.Public(a))
	if err != api.OK || other != api.OK {
		t.Fatalf("Pair of %x and %x: %d, %d", a, b, err, other)
	}
	return p, q
}

// P16.4: of two secrets each one's Pair has the same Secret, and just one has First: the one whose public key is less.
func TestOneSecretOfTwo(t *testing.T) {
	r := rand.New(rand.NewSource(15))
	for range 100 {
		a, b := drawn(r), drawn(r)
		p, q := two(t, a, b)
		if p.Secret != q.Secret || p.First == q.First || p.First != ident.Less(curve.Public(a), curve.Public(b)) {
			t.Errorf("of %x and %x: %v, %v", a, b, p, q)
		}
	}
	if p, q := two(t, api.Key{}, filled(0xff)); p.Secret != q.Secret || p.First == q.First {
		t.Errorf("of noughts and FF: %v, %v", p, q)
	}
}

// P16.4: no two of several pairs of people have one secret.
func TestSecretsApart(t *testing.T) {
	list, seen, count := someDrawn(16, 10), map[api.Key]int{}, 0
	for i, a := range list {
		for _, b := range list[i+1:] {
			p, _ := two(t, a, b)
			seen[p.Secret]++
			count++
		}
	}
	if len(seen) != count {
		t.Errorf("%d secrets of %d pairs", len(seen), count)
	}
}

// P16.4: of one public key both are refused, whatever bits of the secrets are clamped.
func TestBothRefused(t *testing.T) {
	for _, a := range someDrawn(17, 10) {
		b := with(a, 0, a[0]^7)
		pairsNot(t, a, curve.Public(b), api.ErrOwn)
		pairsNot(t, b, curve.Public(a), api.ErrOwn)
	}
}

// P16.4: the hollows of both are the same in each round, and the key of one's mine is that of the other one's not mine.
func TestSameRounds(t *testing.T) {
	r := rand.New(rand.NewSource(18))
	for range 20 {
		p, q := two(t, drawn(r), drawn(r))
		for _, round := range append(rounds(), r.Uint64(), r.Uint64()) {
			if ident.Drop(p, round) != ident.Drop(q, round) {
				t.Errorf("round %d: %x, %x", round, ident.Drop(p, round), ident.Drop(q, round))
			}
			for _, mine := range []bool{true, false} {
				if ident.RoundKey(p, round, mine) != ident.RoundKey(q, round, !mine) {
					t.Errorf("round %d, mine %v: %x, %x", round, mine, ident.RoundKey(p, round, mine), ident.RoundKey(q, round, !mine))
				}
				if ident.RoundKey(p, round, mine) == ident.RoundKey(q, round, mine) {
					t.Errorf("round %d, mine %v: one key for both ways", round, mine)
				}
			}
		}
	}
}

// ordered are keys near each other and far apart, all unlike.
func ordered() []api.Key {
	list := append(someDrawn(19, 10), api.Key{}, filled(0x7f), filled(0x80), filled(0xff), unlike())
	for _, at := range []int{0, 1, 16, 30, 31} {
		list = append(list, with(unlike(), at, unlike()[at]^1), with(unlike(), at, unlike()[at]^0x80), with(api.Key{}, at, 1), with(filled(0xff), at, 0x7f))
	}
	return list
}

// P16.4: Less is an order: no key is less than itself, of two unlike ones just one is, and of three it goes on.
func TestLessIsAnOrder(t *testing.T) {
	list := ordered()
	for _, a := range list {
		for _, b := range list {
			if a == b && ident.Less(a, b) || a != b && ident.Less(a, b) == ident.Less(b, a) {
				t.Errorf("%x and %x: %v, %v", a, b, ident.Less(a, b), ident.Less(b, a))
			}
			for _, c := range list {
				if ident.Less(a, b) && ident.Less(b, c) && !ident.Less(a, c) {
					t.Errorf("%x is less than %x, that than %x, but not the first one than the last", a, b, c)
				}
			}
		}
	}
}

// P16.4: put in order by Less, keys stand as their bytes do.
func TestLessInOrder(t *testing.T) {
	one, other := ordered(), ordered()
	slices.SortFunc(one, func(a, b api.Key) int {
		switch {
		case ident.Less(a, b):
			return -1
		case ident.Less(b, a):
			return 1
		}
		return 0
	})
	slices.SortFunc(other, func(a, b api.Key) int { return bytes.Compare(a[:], b[:]) })
	if !slices.Equal(one, other) {
		t.Errorf("%x, not %x", one, other)
	}
}
