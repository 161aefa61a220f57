package ident_test

import (
	"testing"

	"hollowtree/api"
	"hollowtree/curve"
	"hollowtree/ident"
	"hollowtree/kdf"
)

// less looks at two keys of which the first one is less.
func less(t *testing.T, a, b api.Key) {
	t.Helper()
	if !ident.Less(a, b) || ident.Less(b, a) {
		t.Errorf("%x and %x: %v, the other way about %v", a, b, ident.Less(a, b), ident.Less(b, a))
	}
}

// P16.2: keys that are unlike at one place alone, at each place, of all bytes at the edges.
func TestLessOnePlace(t *testing.T) {
	edges := []byte{0, 1, 2, 0x7e, 0x7f, 0x80, 0x81, 0xfe, 0xff}
	for _, k := range []api.Key{{}, filled(0xff), filled(0x80), unlike()} {
		for at := range 32 {
			for i, x := range edges {
				for _, y := range edges[i+1:] {
					less(t, with(k, at, x), with(k, at, y))
				}
			}
		}
	}
}

// P16.2: each byte against each other one.
func TestLessBytes(t *testing.T) {
	for x := range 256 {
		for y := x + 1; y < 256; y++ {
			for _, at := range []int{0, 15, 31} {
				less(t, with(unlike(), at, byte(x)), with(unlike(), at, byte(y)))
			}
		}
	}
}

// P16.2: the first unlike place counts, whatever comes behind it.
func TestLessFirstPlace(t *testing.T) {
	for at := range 32 {
		for behind := at + 1; behind < 32; behind++ {
			for _, k := range []api.Key{{}, filled(0x80), unlike()} {
				less(t, with(with(k, at, 1), behind, 0xff), with(with(k, at, 2), behind, 0))
				less(t, with(with(k, at, 0x7f), behind, 0x81), with(with(k, at, 0x80), behind, 0x7f))
			}
		}
	}
	less(t, api.Key{0, 0xff, 0xff}, api.Key{1})
	less(t, api.Key{31: 1}, api.Key{1})
	less(t, api.Key{}, api.Key{31: 1})
}

// P16.2: no key is less than itself.
func TestLessItself(t *testing.T) {
	for _, k := range append(someDrawn(6, 200), api.Key{}, filled(0x80), filled(0xff), unlike()) {
		if ident.Less(k, k) {
			t.Errorf("%x is less than itself", k)
		}
	}
}

// P16.2: one's own key, and no other one, is refused as such; of secrets that differ only in what is clamped it is the same.
func TestPairOwn(t *testing.T) {
	for _, s := range append(someDrawn(7, 20), api.Key{}, api.Key{9}, filled(0xff), unlike()) {
		own := curve.Public(s)
		pairsNot(t, s, own, api.ErrOwn)
		pairsNot(t, curve.Clamp(s), own, api.ErrOwn)
		pairsNot(t, with(with(s, 0, s[0]^7), 31, s[31]^0xc0), own, api.ErrOwn)
	}
}

// P16.2: the keys that are own but for one bit are others; also that which is own but for the bit that does not count.
func TestPairNearlyOwn(t *testing.T) {
	s := unlike()
	own := curve.Public(s)
	for bit := range 256 {
		peer := with(own, bit/8, own[bit/8]^1<<(bit%8))
		p := pairs(t, s, peer)
		if p.First != (own[bit/8] < peer[bit/8]) {
			t.Errorf("bit %d: first %v", bit, p.First)
		}
	}
	for _, s := range someDrawn(8, 10) {
		own := curve.Public(s)
		if p := pairs(t, s, with(own, 31, own[31]^0x80)); !p.First {
			t.Errorf("%x with its highest bit is less than without it", own)
		}
	}
}

// P16.2: each low key, in each writing, is refused; those about it are not.
func TestPairLow(t *testing.T) {
	lows := lowKeys()
	if len(lows) != 14 {
		t.Fatalf("%d low keys", len(lows))
	}
	for _, low := range lows {
		for _, s := range append(someDrawn(9, 5), api.Key{}, filled(0xff), low) {
			pairsNot(t, s, low, api.ErrLow)
		}
	}
	for _, low := range lows {
		for _, at := range []int{0, 15, 31} {
			pairs(t, unlike(), with(low, at, low[at]^0x10))
		}
	}
	for _, peer := range []api.Key{{2}, {9}, {0, 1}, {31: 1}, {31: 0x40}, filled(0xff), filled(1)} {
		pairs(t, unlike(), peer)
	}
}

// P16.2: a lesser and a greater peer; Secret and First by the chapter's words, the parts in their order.
func TestPair(t *testing.T) {
	count := map[bool]int{}
	list := append(someDrawn(10, 12), api.Key{}, api.Key{9}, filled(0xff), unlike())
	for i, s := range list {
		for j, other := range list {
			if i == j {
				continue
			}
			own, peer := curve.Public(s), curve.Public(other)
			p := pairs(t, s, peer)
			count[p.First]++
			common, _ := curve.Agree(s, peer)
			ownAhead := kdf.Derive(common, "pair", own[:], peer[:])
			if p.First != (p.Secret == ownAhead) {
				t.Errorf("own %x, peer %x: first %v, the parts in another order", own, peer, p.First)
			}
			if p.Secret == (api.Key{}) || p.Secret == common {
				t.Errorf("the secret of %x and %x: %x", s, peer, p.Secret)
			}
		}
	}
	if count[true] == 0 || count[true] != count[false] {
		t.Errorf("first %d times, not first %d times", count[true], count[false])
	}
}

// P16.2: keys that are nobody's: little ones, FF, those next to own, and the secret itself.
func TestPairAnyKey(t *testing.T) {
	for _, s := range someDrawn(11, 5) {
		own := curve.Public(s)
		for _, peer := range []api.Key{{0, 0, 2}, with(own, 31, own[31]^1), with(own, 0, own[0]^1), s} {
			pairs(t, s, peer)
		}
		if p := pairs(t, s, api.Key{2}); p.First != (own[0] < 2) {
			t.Errorf("own %x, peer 02: first %v", own, p.First)
		}
		if p := pairs(t, s, filled(0xff)); !p.First {
			t.Errorf("own %x, peer FF: not first", own)
		}
	}
}
