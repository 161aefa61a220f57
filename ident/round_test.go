package ident_test

import (
	"encoding/hex"
	"math"
	"testing"

	"hollowtree/api"
	"hollowtree/curve"
	"hollowtree/ident"
	"hollowtree/kdf"
)

// somePairs are pairs with secrets of all kinds, those of one's own making among them, each with both values of First.
func somePairs() []api.Pair {
	var list []api.Pair
	for _, secret := range append(someDrawn(12, 5), api.Key{}, filled(0xff), unlike()) {
		list = append(list, api.Pair{Secret: secret}, api.Pair{Secret: secret, First: true})
	}
	return list
}

// P16.2, P16.3: what another program made by the chapter's words, of the secrets 01 02 .. 20 and FF FC .. A2.
func TestKnownPair(t *testing.T) {
	var s, other api.Key
	for i := range s {
		s[i], other[i] = byte(i+1), byte(255-3*i)
	}
	a := digits(t, "07a37cbc142093c8b755dc1b10e86cb426374ad16aa853ed0bdfc0b2b86d1c7c")
	b := digits(t, "308213612adb627bbdc6a88ba0acd51ed77ecccd408c4b8c376cbd057c20b301")
	if curve.Public(s) != a || curve.Public(other) != b {
		t.Fatalf("%x, %x", curve.Public(s), curve.Public(other))
	}
	secret := digits(t, "5ed02382967e1c9a2f7fe8bb83ea8c97f465f7fed9e275c5a552688dee32e86a")
	p, q := pairs(t, s, b), pairs(t, other, a)
	if p != (api.Pair{Secret: secret, First: true}) || q != (api.Pair{Secret: secret}) {
		t.Errorf("%v, %v", p, q)
	}
	for _, x := range []struct {
		round               uint64
		drop, first, second string
	}{
		{0, "732641c9ca5d0d0ac88f644e9bce9b7d", "37395ad3cbdd942080165b9a20590c5e53810762150cdd646dac75b516c16315", "d30c923fc33fdba57b6945dbba7ce3d26cec1c655cf304d1e71ce277da37c5b1"},
		{1, "362f982ab73cccee555591c064325157", "b5249bec32614d74b64fcbd5afa93ed22f6bd0ca84cb2cab1ac0ebdac0d204cb", "1bfd4e2c045f72a4b2a1c3cf9e26349ef79c7e482782c2d4b72c82a334bf582d"},
		{7, "64f47bba1001a894532eae4c70f5eb0b", "a4c9b82d92e2703067a779108af82b0ec3ad6efdfd8ab905e15aca7e3658658c", "106b9d4cef48ab1213faa28f976fbc7c2c43e0ce0b3c1c68f83987d8009cda71"},
		{0x0807060504030201, "0bd73e1073e1f18b4ede23783efd2d51", "3cb4e86e2b8a934a6f8fd95ec3cbc93ba3ba7caf02b59d197976916fd2707534", "99eb8e71e5e53de89fc3249544d2c8d01b1ee6d391145cc9029fcd144f83cb3e"},
		{math.MaxUint64, "82574ba38cb2de1c44a8e8eca88f6fdd", "b498e3b68dd582b488139e38a0b267c663357fea16fd0991a171911dbaf6ece6", "a2b3a0d45b8d1785b1883b29db32a1d33a73071b31f36dfab72159dc79146e4d"},
	} {
		for _, one := range []api.Pair{p, q} {
			if drop := ident.Drop(one, x.round); hex.EncodeToString(drop[:]) != x.drop {
				t.Errorf("round %d: the hollow %x", x.round, drop)
			}
		}
		first, second := digits(t, x.first), digits(t, x.second)
		for _, k := range []api.Key{ident.RoundKey(p, x.round, true), ident.RoundKey(q, x.round, false)} {
			if k != first {
				t.Errorf("round %d: what the first one sends: %x", x.round, k)
			}
		}
		for _, k := range []api.Key{ident.RoundKey(p, x.round, false), ident.RoundKey(q, x.round, true)} {
			if k != second {
				t.Errorf("round %d: what the second one sends: %x", x.round, k)
			}
		}
	}
}

// P16.3: the hollow by the chapter's words, in rounds at the edges, whoever is first.
func TestDrop(t *testing.T) {
	for _, p := range somePairs() {
		for _, round := range rounds() {
			want := kdf.Derive(p.Secret, "drop", low64(round))
			if drop := ident.Drop(p, round); drop != api.Drop(want[:16]) {
				t.Errorf("Drop of %v in %d: %x, not %x", p, round, drop, want[:16])
			}
		}
	}
}

// P16.3: the round's keys by the chapter's words, for both values of First and of mine.
func TestRoundKey(t *testing.T) {
	for _, x := range []struct {
		first, mine bool
		label       string
	}{{true, true, "first"}, {true, false, "second"}, {false, true, "second"}, {false, false, "first"}} {
		for _, p := range somePairs() {
			p.First = x.first
			for _, round := range rounds() {
				want := kdf.Derive(p.Secret, x.label, low64(round))
				if k := ident.RoundKey(p, round, x.mine); k != want {
					t.Errorf("RoundKey of %v in %d, mine %v: %x, not %x", p, round, x.mine, k, want)
				}
			}
		}
	}
}

// P16.3: no two rounds, ways or secrets have one hollow or key.
func TestRoundsApart(t *testing.T) {
	drops, keys, count := map[api.Drop]int{}, map[api.Key]int{}, 0
	for _, p := range somePairs() {
		if !p.First {
			continue
		}
		for _, round := range rounds() {
			drops[ident.Drop(p, round)]++
			keys[ident.RoundKey(p, round, true)]++
			keys[ident.RoundKey(p, round, false)]++
			count++
		}
	}
	if len(drops) != count || len(keys) != 2*count {
		t.Errorf("%d hollows and %d keys of %d rounds", len(drops), len(keys), count)
	}
}
