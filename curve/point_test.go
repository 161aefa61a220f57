package curve_test

import (
	"encoding/hex"
	"math/big"
	"math/rand"
	"slices"
	"testing"

	"hollowtree/api"
)

// whole is 2^power + more.
func whole(power uint, more int64) *big.Int {
	x := new(big.Int).Lsh(big.NewInt(1), power)
	return x.Add(x, big.NewInt(more))
}

func prime() *big.Int { return whole(255, -19) }

// key are the bytes of x, which is below 2^256.
func key(x *big.Int) api.Key {
	var k api.Key
	x.FillBytes(k[:])
	slices.Reverse(k[:])
	return k
}

// number is the one whose bytes k are.
func number(k api.Key) *big.Int {
	slices.Reverse(k[:])
	return new(big.Int).SetBytes(k[:])
}

// digits is the key that 64 hex digits tell, the lowest byte first.
func digits(t *testing.T, s string) api.Key {
	t.Helper()
	b, err := hex.DecodeString(s)
	if err != nil || len(b) != 32 {
		t.Fatalf("%s is no key: %v", s, err)
	}
	return api.Key(b)
}

// decimal is the key of a number that is written in decimal digits.
func decimal(t *testing.T, s string) api.Key {
	t.Helper()
	x, ok := new(big.Int).SetString(s, 10)
	if !ok {
		t.Fatalf("%s is no number", s)
	}
	return key(x)
}

// drawn are keys of all 256 bits, the same ones at each run.
func drawn(seed int64, count int) []api.Key {
	r := rand.New(rand.NewSource(seed))
	out := make([]api.Key, count)
	for i := range out {
		r.Read(out[i][:])
	}
	return out
}

// secrets are keys with none, all and single ones of their bits, and some that are drawn.
func secrets() []api.Key {
	out := []api.Key{{}, {9}, key(whole(256, -1)), key(whole(254, 0)), key(whole(255, -8)), key(whole(255, 0)), key(whole(3, 0))}
	return append(out, drawn(3, 8)...)
}

// point is one of the curve b y y = x x x + 486662 x x + x; nil is the one that is no pair of numbers.
type point struct{ x, y *big.Int }

// bent is the curve on which a place has y = 1: its b. So a place of the twist is reckoned with as one of the curve is.
type bent struct{ b *big.Int }

// mod is a sum of terms, modulo the prime; a term is a product.
func mod(terms ...[]*big.Int) *big.Int {
	out := new(big.Int)
	for _, term := range terms {
		product := big.NewInt(1)
		for _, factor := range term {
			product.Mul(product, factor)
		}
		out.Add(out, product)
	}
	return out.Mod(out, prime())
}

func bentAt(u *big.Int) bent {
	a := big.NewInt(486662)
	return bent{mod([]*big.Int{u, u, u}, []*big.Int{a, u, u}, []*big.Int{u})}
}

// slope is that of the line through both, or of the one that touches the curve, if both are one; false, if it goes straight up.
func (c bent) slope(p, q *point) (*big.Int, bool) {
	up := new(big.Int).Sub(q.y, p.y)
	along := new(big.Int).Sub(q.x, p.x)
	if along.Sign() == 0 {
		if p.y.Cmp(q.y) != 0 || p.y.Sign() == 0 {
			return nil, false
		}
		up = mod([]*big.Int{big.NewInt(3), p.x, p.x}, []*big.Int{big.NewInt(2 * 486662), p.x}, nil)
		along = mod([]*big.Int{big.NewInt(2), c.b, p.y})
	}
	along.Mod(along, prime())
	return mod([]*big.Int{up, along.ModInverse(along, prime())}), true
}

// sum is the sum of two points, by lines through them.
func (c bent) sum(p, q *point) *point {
	if p == nil {
		return q
	}
	if q == nil {
		return p
	}
	m, ok := c.slope(p, q)
	if !ok {
		return nil
	}
	less := big.NewInt(-1)
	x := mod([]*big.Int{c.b, m, m}, []*big.Int{big.NewInt(-486662)}, []*big.Int{less, p.x}, []*big.Int{less, q.x})
	y := mod([]*big.Int{m, p.x}, []*big.Int{less, m, x}, []*big.Int{less, p.y})
	return &point{x, y}
}

// multiple is what X25519 answers: so many times the point at the place u, told by its x. It is reckoned with both numbers of a point, not as the chapter does.
func multiple(k, u api.Key) api.Key {
	count := number(k)
	for _, bit := range []int{0, 1, 2, 255} {
		count.SetBit(count, bit, 0)
	}
	count.SetBit(count, 254, 1)
	place := number(u)
	place.SetBit(place, 255, 0)
	place.Mod(place, prime())
	c := bentAt(place)
	if c.b.Sign() == 0 {
		return api.Key{} // the place 0: twice its point is none
	}
	var out *point
	for bit := 254; bit >= 0; bit-- {
		out = c.sum(out, out)
		if count.Bit(bit) == 1 {
			out = c.sum(out, &point{place, big.NewInt(1)})
		}
	}
	if out == nil {
		return api.Key{}
	}
	return key(out.x)
}
