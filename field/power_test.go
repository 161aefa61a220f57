package field_test

import (
	"math"
	"math/big"
	"math/rand"
	"testing"

	"hollowtree/api"
	"hollowtree/field"
)

// exponents are whole numbers below 2^256: the least, the greatest, those about the prime, and some that are drawn.
func exponents() []*big.Int {
	out := []*big.Int{new(big.Int), big.NewInt(1), big.NewInt(2), big.NewInt(3), big.NewInt(10), big.NewInt(255), big.NewInt(256)}
	for _, power := range []uint{8, 9, 64, 128, 247, 248, 254, 255} {
		out = append(out, whole(power, -1), whole(power, 0), whole(power, 1))
	}
	for n := int64(-3); n <= 2; n++ {
		out = append(out, new(big.Int).Add(prime(), big.NewInt(n)))
	}
	out = append(out, whole(256, -1), whole(256, -2), new(big.Int).Add(whole(255, 0), whole(254, 0)))
	r := rand.New(rand.NewSource(4))
	for range 10 {
		out = append(out, new(big.Int).Rand(r, whole(256, 0)))
	}
	return out
}

// power is x to the whole number e, modulo the prime; that by 0 is 1, of 0 too.
func power(x, e *big.Int) *big.Int { return new(big.Int).Exp(x, e, prime()) }

// P2.3: all 256 bits of the exponent count, the highest too.
func TestPower(t *testing.T) {
	for _, x := range some() {
		for _, e := range exponents() {
			told(t, "Power by "+e.String(), from(x).Power(key(e)), power(x, e))
		}
	}
	told(t, "2 to the 10", field.Of(2).Power(api.Key{10}), big.NewInt(1024))
}

// P2.3: each bit of the exponent alone.
func TestPowerBits(t *testing.T) {
	for bit := range uint(256) {
		e := whole(bit, 0)
		told(t, "3 to a power of 2", field.Of(3).Power(key(e)), power(big.NewInt(3), e))
	}
}

// P2.3: by 0 a power is 1, of 0 too; other powers of 0 are 0, those of 1 are 1.
func TestPowerNought(t *testing.T) {
	for _, x := range some() {
		told(t, "Power by 0", from(x).Power(api.Key{}), big.NewInt(1))
	}
	told(t, "0 to the 0", field.Elem{}.Power(api.Key{}), big.NewInt(1))
	told(t, "the prime to the 0", from(prime()).Power(api.Key{}), big.NewInt(1))
	for _, e := range exponents()[1:] {
		told(t, "a power of 0", field.Of(0).Power(key(e)), new(big.Int))
		told(t, "a power of 1", field.Of(1).Power(key(e)), big.NewInt(1))
	}
}

// P2.3: the inverse; that of 0 is 0, in whichever bytes it came.
func TestInv(t *testing.T) {
	for _, x := range some() {
		if x.Sign() == 0 {
			continue
		}
		told(t, "Inv", from(x).Inv(), new(big.Int).ModInverse(x, prime()))
	}
	if b := field.Of(2).Inv().Bytes(); b != key(whole(254, -9)) {
		t.Errorf("Inv of 2: % x", b)
	}
	told(t, "Inv of 1", field.Of(1).Inv(), big.NewInt(1))
	told(t, "Inv of -1", field.Of(1).Neg().Inv(), big.NewInt(-1))
	for _, a := range []field.Elem{{}, field.Of(0), from(prime()), field.Of(7).Sub(field.Of(7))} {
		told(t, "Inv of 0", a.Inv(), new(big.Int))
	}
}

// P2.4: the lowest bit alone counts, of numbers below 0 too.
func TestSwap(t *testing.T) {
	stays := []int{0, 2, 4, -2, -4, 1 << 32, math.MaxInt - 1, math.MinInt, math.MinInt + 2}
	turns := []int{1, 3, 5, -1, -3, 1<<32 + 1, math.MaxInt, math.MinInt + 1}
	for _, x := range some() {
		for _, y := range edges() {
			for _, bit := range stays {
				a, b := field.Swap(bit, from(x), from(y))
				told(t, "the first, not swapped", a, x)
				told(t, "the second, not swapped", b, y)
			}
			for _, bit := range turns {
				a, b := field.Swap(bit, from(x), from(y))
				told(t, "the first, swapped", a, y)
				told(t, "the second, swapped", b, x)
			}
		}
	}
}

func alike(t *testing.T, what string, a, b field.Elem) {
	t.Helper()
	if !a.Same(b) || a.Bytes() != b.Bytes() {
		t.Errorf("%s: %x and %x", what, number(a.Bytes()), number(b.Bytes()))
	}
}

// P2.5: the field's laws.
func TestLaws(t *testing.T) {
	for _, x := range some() {
		a := from(x)
		for _, y := range edges() {
			b := from(y)
			alike(t, "sums in any order", a.Add(b), b.Add(a))
			alike(t, "products in any order", a.Mul(b), b.Mul(a))
			alike(t, "Sub takes back what Add added", a.Add(b).Sub(b), a)
			alike(t, "Sub is Add of Neg", a.Sub(b), a.Add(b.Neg()))
			if a.Mul(b).Zero() != (a.Zero() || b.Zero()) {
				t.Errorf("the product of %x and %x", x, y)
			}
			for _, z := range edges()[:12] {
				c := from(z)
				alike(t, "sums in any grouping", a.Add(b).Add(c), a.Add(b.Add(c)))
				alike(t, "products in any grouping", a.Mul(b).Mul(c), a.Mul(b.Mul(c)))
				alike(t, "Mul over Add", a.Mul(b.Add(c)), a.Mul(b).Add(a.Mul(c)))
			}
		}
		alike(t, "Square", a.Square(), a.Mul(a))
		alike(t, "Times", a.Times(121665), a.Mul(field.Of(121665)))
	}
}

// P2.5: powers, and inverses.
func TestPowerLaws(t *testing.T) {
	less := func(n int64) api.Key { return key(new(big.Int).Sub(prime(), big.NewInt(n))) }
	for _, x := range some() {
		a := from(x)
		alike(t, "Power(p - 2)", a.Power(less(2)), a.Inv())
		alike(t, "Power(p)", a.Power(less(0)), a)
		if !a.Zero() {
			alike(t, "Power(p - 1)", a.Power(less(1)), field.Of(1))
			alike(t, "Inv takes back what Mul multiplied by", field.Of(77).Mul(a).Mul(a.Inv()), field.Of(77))
			alike(t, "Inv of Inv", a.Inv().Inv(), a)
		}
	}
	for _, x := range some()[:20] {
		for _, e := range exponents() {
			for _, f := range exponents()[:10] {
				sum := new(big.Int).Add(e, f)
				if sum.BitLen() <= 256 {
					alike(t, "Power of a sum", from(x).Power(key(sum)), from(x).Power(key(e)).Mul(from(x).Power(key(f))))
				}
			}
		}
	}
}

// P2.5: From of Bytes is the number; Bytes of From, below the prime, are the bytes.
func TestThereAndBack(t *testing.T) {
	for _, x := range some() {
		a := from(x)
		if a.Bytes() != key(x) {
			t.Errorf("Bytes of From of %x: %x", x, number(a.Bytes()))
		}
		for _, b := range []field.Elem{a, a.Neg(), a.Square(), a.Add(a), a.Times(math.MaxUint32)} {
			alike(t, "From of Bytes", field.From(b.Bytes()), b)
			if number(b.Bytes()).Cmp(prime()) >= 0 {
				t.Errorf("Bytes of %x or more than the prime", b.Bytes())
			}
		}
	}
}
