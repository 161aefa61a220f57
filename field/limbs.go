package field

import "math/bits"

const (
	count = 5            // limbs of a number
	width = 51           // bits of a limb, but for what is not carried yet
	own   = 1<<width - 1 // a limb's own bits
	wrap  = 19           // what 2^255, the first bit above all limbs, is modulo the prime
	word  = 64           // bits of what a limb is kept in
)

// limbs are the digits of a number to the base 2^51, the lowest first. Each is below 2^51, but for the first, which is below 2^52: so much is left uncarried, as all that is done with limbs has room for it.
type limbs [count]uint64

// carried are the limbs of the number whose digits are handed in, each below 2^61. What goes out at the top comes in again at the bottom.
func carried(a, b, c, d, e uint64) limbs {
	b += a >> width
	a &= own
	c += b >> width
	b &= own
	d += c >> width
	c &= own
	e += d >> width
	d &= own
	a += e >> width * wrap
	e &= own
	return limbs{a, b, c, d, e}
}

// least is the number below the prime that is the same one modulo the prime. The prime is in the limbs at most once: once just if 19 more reach 2^255.
func (l limbs) least() limbs {
	over := uint64(wrap)
	for _, x := range l {
		over += x
		over >>= width
	}
	over *= wrap
	for i := range l {
		over += l[i]
		l[i] = over & own
		over >>= width
	}
	return l
}

// sum is a sum of products of limbs.
type sum struct{ high, low uint64 }

// and is the sum with x times y added.
func (s sum) and(x, y uint64) sum {
	high, low := bits.Mul64(x, y)
	low, carry := bits.Add64(low, s.low, 0)
	return sum{s.high + high + carry, low}
}

// over is what the sum has above the bits of a limb.
func (s sum) over() uint64 { return s.high<<(word-width) | s.low>>width }

// narrowed are the limbs of the number whose digits the sums are: each below 2^111, the last one, of which 19 times the carry is taken, below 2^107.
func narrowed(a, b, c, d, e sum) limbs {
	return carried(a.low&own+e.over()*wrap, b.low&own+a.over(), c.low&own+b.over(), d.low&own+c.over(), e.low&own+d.over())
}
