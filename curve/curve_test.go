package curve_test

import (
	"math/big"
	"testing"

	"hollowtree/api"
	"hollowtree/curve"
)

// places are keys at which the place is least or greatest, or has one bit, about the prime, with the highest bit and without it, and some that are drawn.
func places() []api.Key {
	var out []api.Key
	for n := range int64(20) {
		out = append(out, key(big.NewInt(n)), key(whole(255, n-20)), key(whole(255, n)), key(whole(256, n-20)))
	}
	for power := uint(5); power < 255; power += 31 {
		out = append(out, key(whole(power, 0)), key(whole(power, -1)))
	}
	out = append(out, key(new(big.Int).Sub(prime(), big.NewInt(9))), key(new(big.Int).Rsh(prime(), 1)))
	return append(out, drawn(5, 10)...)
}

// turned is the key with one of its bits turned about.
func turned(k api.Key, bit int) api.Key {
	k[bit/8] ^= 1 << (bit % 8)
	return k
}

// P3.1: the chapter's example, and both of RFC 7748's section 5.2.
func TestXExamples(t *testing.T) {
	for _, e := range [][3]string{
		{"a546e36bf0527c9d3b16154b82465edd62144c0ac1fc5a18506a2244ba449ac4", "e6db6867583030db3594c1a424b15f7c726624ec26b3353b10a903a6d0ab1c4c", "c3da55379de9c6908e94ea4df28d084f32eccf03491c71f754b4075577a28552"},
		{"4b66e9d4d1b4673c5ad22691957d6af5c11b6421e0ea01d42ca4169e7918ba0d", "e5210f12786811d3f4b7959d0538ae2c31dbe7106fc03c3efc4cd549c715a493", "95cbde9476e8907d7aade45cb4b873f88b595a68799fa152e6f8f7647aac7957"},
	} {
		k, u, want := digits(t, e[0]), digits(t, e[1]), digits(t, e[2])
		if x := curve.X(k, u); x != want {
			t.Errorf("X of %x and %x: %x", k, u, x)
		}
		if x, err := curve.Agree(k, u); x != want || err != api.OK {
			t.Errorf("Agree of %x and %x: %x, %d", k, u, x, err)
		}
	}
}

// P3.1: RFC 7748's chain, in which each answer is the next secret, and the secret the next place.
func TestXChain(t *testing.T) {
	k, u := api.Key{9}, api.Key{9}
	for step := range 1000 {
		k, u = curve.X(k, u), k
		if step == 0 && k != digits(t, "422c8e7a6227d7bca1350b3e2bb7279f7897b87bb6854b783c60e80311ae3079") {
			t.Fatalf("behind the first: %x", k)
		}
	}
	if k != digits(t, "684cf59ba83309552800ef566f2f4d3c1c3887c49360e3875f2eb94d99532c51") {
		t.Errorf("behind a thousand: %x", k)
	}
}

// P3.1: the chapter's example, that of the secret 9, and the keys of RFC 7748's section 6.1.
func TestPublicExamples(t *testing.T) {
	for _, e := range [][2]string{
		{"0000000000000000000000000000000000000000000000000000000000000000", "2fe57da347cd62431528daac5fbb290730fff684afc4cfc2ed90995f58cb3b74"},
		{"0900000000000000000000000000000000000000000000000000000000000000", "422c8e7a6227d7bca1350b3e2bb7279f7897b87bb6854b783c60e80311ae3079"},
		{"77076d0a7318a57d3c16c17251b26645df4c2f87ebc0992ab177fba51db92c2a", "8520f0098930a754748b7ddcb43ef75a0dbf3a0d26381af4eba4a98eaa9b4e6a"},
		{"5dab087e624a8a4b79e17f8b83800ee66f3bb1292618b6fd1c2f8b27ff88e0eb", "de9edb7d7b7dc1b4d35b61c2ece435373f8343c85b78674dadfc7e146f882b4f"},
	} {
		if x := curve.Public(digits(t, e[0])); x != digits(t, e[1]) {
			t.Errorf("Public of %s: %x", e[0], x)
		}
	}
}

// P3.1: Public is X of the key whose first byte is 9.
func TestPublic(t *testing.T) {
	for _, k := range secrets() {
		if p := curve.Public(k); p != curve.X(k, api.Key{9}) || p != multiple(k, api.Key{9}) {
			t.Errorf("Public of %x: %x", k, p)
		}
	}
}

// P3.1: X is so many times the point, whatever the place: one of the curve, or one of its twist.
func TestX(t *testing.T) {
	all := secrets()
	for i, u := range places() {
		for _, k := range []api.Key{all[i%len(all)], all[(i+7)%len(all)]} {
			if x, want := curve.X(k, u), multiple(k, u); x != want {
				t.Errorf("X of %x and %x: %x, not %x", k, u, x, want)
			}
		}
	}
}

// P3.1: five bits of a clamped key are set, all others stay.
func TestClamp(t *testing.T) {
	for _, k := range append(secrets(), places()...) {
		got := number(curve.Clamp(k))
		want := number(k)
		for _, bit := range []int{0, 1, 2, 255} {
			want.SetBit(want, bit, 0)
		}
		want.SetBit(want, 254, 1)
		if got.Cmp(want) != 0 {
			t.Errorf("Clamp of %x: %x, not %x", k, got, want)
		}
	}
	if k := curve.Clamp(api.Key{}); k != (api.Key{31: 0x40}) {
		t.Errorf("Clamp of noughts: %x", k)
	}
	if k := curve.Clamp(key(whole(256, -1))); k != key(whole(255, -8)) {
		t.Errorf("Clamp of all bits: %x", k)
	}
}

// P3.3: secrets that differ in clamped bits alone are one to X; in any other bit they are not.
func TestSecretBits(t *testing.T) {
	clamped := map[int]int{0: 1, 1: 1, 2: 1, 254: 1, 255: 1}
	for _, u := range append(drawn(6, 2), api.Key{9}) {
		for _, k := range []api.Key{{}, key(whole(256, -1)), drawn(7, 1)[0]} {
			x := curve.X(k, u)
			for bit := range 256 {
				same := curve.X(turned(k, bit), u) == x
				if same != (clamped[bit] == 1) {
					t.Errorf("X of %x and %x, bit %d of the secret turned: the same is %v", k, u, bit, same)
				}
			}
			if curve.X(curve.Clamp(k), u) != x {
				t.Errorf("X of %x, clamped, and %x", k, u)
			}
		}
	}
}

// P3.3: secrets that are clamped in all ways at once are one to X, Public and Agree.
func TestSecretBitsTogether(t *testing.T) {
	u := drawn(8, 1)[0]
	for _, k := range secrets() {
		for way := range 32 {
			other := k
			other[0] = other[0]&0xf8 | byte(way&7)
			other[31] = other[31]&0x3f | byte(way>>3)<<6
			if curve.Clamp(other) != curve.Clamp(k) || curve.X(other, u) != curve.X(k, u) || curve.Public(other) != curve.Public(k) {
				t.Errorf("%x and %x are not one", k, other)
			}
		}
	}
}

// P3.3: the highest bit of a public key counts for nothing, each other one for something.
func TestPublicKeyBits(t *testing.T) {
	for _, k := range drawn(9, 2) {
		for _, u := range []api.Key{{9}, key(whole(254, 0)), drawn(10, 1)[0]} {
			x := curve.X(k, u)
			for bit := range 256 {
				same := curve.X(k, turned(u, bit)) == x
				if same != (bit == 255) {
					t.Errorf("X of %x and %x, bit %d of the place turned: the same is %v", k, u, bit, same)
				}
			}
		}
	}
}

// P3.3: with the highest bit and without it a public key is the same to X, Agree and Low.
func TestHighestBit(t *testing.T) {
	k := drawn(11, 1)[0]
	for _, u := range places() {
		other := turned(u, 255)
		x, err := curve.Agree(k, u)
		y, otherErr := curve.Agree(k, other)
		if x != y || err != otherErr || curve.X(k, u) != curve.X(k, other) || curve.Low(u) != curve.Low(other) {
			t.Errorf("%x and %x are not one", u, other)
		}
	}
}

// P3.1: places from p to 2^255 - 1 are 0 to 18.
func TestPlacesFromPrime(t *testing.T) {
	for n := range int64(19) {
		least := key(big.NewInt(n))
		for _, u := range []api.Key{key(whole(255, n-19)), key(whole(256, n-19))} {
			for _, k := range secrets() {
				if x := curve.X(k, u); x != curve.X(k, least) {
					t.Errorf("X of %x and %x: %x, unlike that of %d", k, u, x, n)
				}
			}
			if curve.Low(u) != (n <= 1) || curve.Low(least) != (n <= 1) {
				t.Errorf("Low of %x: %v, of %x: %v", u, curve.Low(u), least, curve.Low(least))
			}
		}
	}
}

// P3.3: both ways two make the same in common; RFC 7748's section 6.1 among them.
func TestCommon(t *testing.T) {
	a, b := digits(t, "77076d0a7318a57d3c16c17251b26645df4c2f87ebc0992ab177fba51db92c2a"), digits(t, "5dab087e624a8a4b79e17f8b83800ee66f3bb1292618b6fd1c2f8b27ff88e0eb")
	if x := curve.X(a, curve.Public(b)); x != digits(t, "4a5d9d5ba4ce2de1728e3bf480350f25e07e21c947d19e3376f09b3c1e161742") {
		t.Errorf("what RFC 7748's two have in common: %x", x)
	}
	for _, a := range append(secrets(), a, b) {
		for _, b := range append(secrets(), b) {
			x, err := curve.Agree(a, curve.Public(b))
			y, otherErr := curve.Agree(b, curve.Public(a))
			if x != y || err != api.OK || otherErr != api.OK {
				t.Errorf("%x and %x agree on %x, %d and %x, %d", a, b, x, err, y, otherErr)
			}
			if curve.X(a, curve.Public(b)) != x || curve.X(b, curve.Public(a)) != x {
				t.Errorf("%x and %x have unlike things in common", a, b)
			}
		}
	}
}
