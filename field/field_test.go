package field_test

import (
	"math"
	"math/big"
	"math/rand"
	"slices"
	"testing"

	"hollowtree/api"
	"hollowtree/field"
)

// whole is 2^power + more.
func whole(power uint, more int64) *big.Int {
	x := new(big.Int).Lsh(big.NewInt(1), power)
	return x.Add(x, big.NewInt(more))
}

func prime() *big.Int { return whole(255, -19) }

// key are the bytes of x, which is below 2^256.
func key(x *big.Int) api.Key {
	var k api.Key
	x.FillBytes(k[:])
	slices.Reverse(k[:])
	return k
}

// number is the one whose bytes k are.
func number(k api.Key) *big.Int {
	slices.Reverse(k[:])
	return new(big.Int).SetBytes(k[:])
}

// edges are numbers of the field at which a carry, a limb or the prime ends.
func edges() []*big.Int {
	out := []*big.Int{new(big.Int)}
	for _, n := range []int64{1, 2, 3, 18, 19, 20, 38, 121665, math.MaxInt64} {
		out = append(out, big.NewInt(n), new(big.Int).Sub(prime(), big.NewInt(n)))
	}
	for _, power := range []uint{8, 25, 50, 51, 52, 63, 64, 102, 127, 128, 153, 192, 204, 253, 254} {
		out = append(out, whole(power, 0), whole(power, -1), whole(power, 1))
	}
	half := new(big.Int).Rsh(prime(), 1)
	return append(out, half, new(big.Int).Add(half, big.NewInt(1)))
}

// some are the edges and numbers that are drawn, the same ones at each run.
func some() []*big.Int {
	r := rand.New(rand.NewSource(2))
	out := edges()
	for range 20 {
		out = append(out, new(big.Int).Rand(r, prime()))
	}
	return out
}

// from is the number of the field that x is.
func from(x *big.Int) field.Elem { return field.From(key(x)) }

// told holds what a call answered against what arithmetic says, by all that tells a number.
func told(t *testing.T, what string, got field.Elem, want *big.Int) {
	t.Helper()
	rest := new(big.Int).Mod(want, prime())
	if k := got.Bytes(); k != key(rest) {
		t.Fatalf("%s: %x, not %x", what, number(k), rest)
	}
	if !got.Same(from(rest)) || !from(rest).Same(got) {
		t.Fatalf("%s: not the same as %x", what, rest)
	}
	if got.Zero() != (rest.Sign() == 0) {
		t.Fatalf("%s: Zero is %v of %x", what, got.Zero(), rest)
	}
}

// P2.1: the chapter's examples, and the zero value.
func TestMade(t *testing.T) {
	if b := field.Of(258).Bytes(); b != (api.Key{2, 1}) {
		t.Errorf("Of(258): % x", b)
	}
	told(t, "the zero value", field.Elem{}, new(big.Int))
	for _, n := range []uint64{0, 1, 18, 19, 255, 256, 1<<51 - 1, 1 << 51, 1<<51 + 1, 1 << 63, math.MaxUint64} {
		told(t, "Of", field.Of(n), new(big.Int).SetUint64(n))
	}
	for _, x := range some() {
		told(t, "From", from(x), x)
	}
	for power := range uint(255) {
		told(t, "From of one bit", from(whole(power, 0)), whole(power, 0))
	}
}

// P2.1: bytes from 2^255 - 19 to 2^255 - 1 are 0 to 18.
func TestFromPrime(t *testing.T) {
	for n := range int64(19) {
		told(t, "From at the prime", from(whole(255, n-19)), big.NewInt(n))
		told(t, "From at the prime, with the highest bit", from(whole(256, n-19)), big.NewInt(n))
	}
	told(t, "From ahead of the prime", from(whole(255, -20)), whole(255, -20))
}

// P2.1: the highest bit of the last byte counts for nothing.
func TestFromHighest(t *testing.T) {
	for _, x := range some() {
		k := key(x)
		k[31] |= 0x80
		told(t, "From with the highest bit", field.From(k), x)
	}
	told(t, "From of the highest bit alone", from(whole(255, 0)), new(big.Int))
	told(t, "From of all bits", from(whole(256, -1)), big.NewInt(18))
}

// P2.1: Same is false, and Zero too, wherever the one bit is in which numbers are unlike.
func TestUnlike(t *testing.T) {
	for _, x := range some() {
		a := from(x)
		for power := range uint(255) {
			if b := a.Add(from(whole(power, 0))); a.Same(b) || b.Same(a) {
				t.Fatalf("%x is the same as with 2^%d added", x, power)
			}
		}
	}
	for power := range uint(255) {
		if from(whole(power, 0)).Zero() {
			t.Errorf("2^%d is 0", power)
		}
	}
	if field.Of(0).Same(field.Of(1)) || !from(prime()).Zero() || !from(prime()).Same(field.Of(0)) {
		t.Error("0, 1 and the prime are not told apart")
	}
}

// P2.2: all calls of two numbers, 0 and 1 and numbers across 0 among them.
func TestReckoned(t *testing.T) {
	for _, x := range some() {
		for _, y := range some() {
			a, b := from(x), from(y)
			told(t, "Add", a.Add(b), new(big.Int).Add(x, y))
			told(t, "Sub", a.Sub(b), new(big.Int).Sub(x, y))
			told(t, "Mul", a.Mul(b), new(big.Int).Mul(x, y))
			told(t, "the first, behind the calls", a, x)
			told(t, "the second, behind the calls", b, y)
		}
	}
}

// P2.2: all calls of one number.
func TestReckonedOfOne(t *testing.T) {
	for _, x := range some() {
		a := from(x)
		told(t, "Neg", a.Neg(), new(big.Int).Neg(x))
		told(t, "Square", a.Square(), new(big.Int).Mul(x, x))
		for _, n := range []uint32{0, 1, 2, 19, 121665, 1 << 31, math.MaxUint32} {
			told(t, "Times", a.Times(n), new(big.Int).Mul(x, big.NewInt(int64(n))))
		}
		told(t, "the number, behind the calls", a, x)
	}
}

// P2.2: the chapter's examples, and what is across 0.
func TestAcrossNought(t *testing.T) {
	told(t, "3 - 5", field.Of(3).Sub(field.Of(5)), whole(255, -21))
	told(t, "0 - 1", field.Of(0).Sub(field.Of(1)), whole(255, -20))
	told(t, "0 - 0", field.Of(0).Sub(field.Of(0)), new(big.Int))
	told(t, "-0", field.Of(0).Neg(), new(big.Int))
	told(t, "-1", field.Of(1).Neg(), whole(255, -20))
	told(t, "-1 + 1", field.Of(1).Neg().Add(field.Of(1)), new(big.Int))
	told(t, "-1 + 2", field.Of(1).Neg().Add(field.Of(2)), big.NewInt(1))
	told(t, "-1 times -1", field.Of(1).Neg().Square(), big.NewInt(1))
	told(t, "0 - a number that the prime is in", field.Of(0).Sub(from(whole(255, -1))), big.NewInt(-18))
	told(t, "121665 times 3", field.Of(121665).Times(3), big.NewInt(364995))
}

// P2.2: whatever was reckoned ahead of it, a call answers what arithmetic says: limbs stay within their bounds.
func TestLong(t *testing.T) {
	r := rand.New(rand.NewSource(3))
	calls := []func(a, b field.Elem, x, y *big.Int) (field.Elem, *big.Int){
		func(a, b field.Elem, x, y *big.Int) (field.Elem, *big.Int) {
			return a.Add(b), new(big.Int).Add(x, y)
		},
		func(a, b field.Elem, x, y *big.Int) (field.Elem, *big.Int) {
			return a.Sub(b), new(big.Int).Sub(x, y)
		},
		func(a, b field.Elem, x, y *big.Int) (field.Elem, *big.Int) {
			return a.Mul(b), new(big.Int).Mul(x, y)
		},
		func(a, b field.Elem, x, y *big.Int) (field.Elem, *big.Int) {
			return a.Neg(), new(big.Int).Neg(x)
		},
		func(a, b field.Elem, x, y *big.Int) (field.Elem, *big.Int) {
			return a.Square(), new(big.Int).Mul(x, x)
		},
		func(a, b field.Elem, x, y *big.Int) (field.Elem, *big.Int) {
			n := r.Uint32()
			return a.Times(n), new(big.Int).Mul(x, big.NewInt(int64(n)))
		},
	}
	numbers := some()
	elems := make([]field.Elem, len(numbers))
	for i, x := range numbers {
		elems[i] = from(x)
	}
	for range 50000 {
		i, j, to := r.Intn(len(elems)), r.Intn(len(elems)), r.Intn(len(elems))
		a, x := calls[r.Intn(len(calls))](elems[i], elems[j], numbers[i], numbers[j])
		told(t, "a call behind others", a, x)
		elems[to], numbers[to] = a, x.Mod(x, prime())
	}
}

// P2.2: many sums and differences of the greatest numbers, one behind the other, without a product between them.
func TestManySums(t *testing.T) {
	top, all := from(whole(255, -1)), whole(255, -1)
	sum, difference, twice := top, top, top
	x, y, z := all, all, all
	for range 2000 {
		sum, x = sum.Add(top), new(big.Int).Add(x, all)
		difference, y = difference.Sub(top), new(big.Int).Sub(y, all)
		twice, z = twice.Add(twice), new(big.Int).Lsh(z, 1)
	}
	told(t, "sums", sum, x)
	told(t, "differences", difference, y)
	told(t, "doubles", twice, z)
	told(t, "their product", sum.Mul(difference).Mul(twice), x.Mul(x, y).Mul(x, z))
}
