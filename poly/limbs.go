package poly

import (
	"hollowtree/api"
	"hollowtree/octet"
)

const (
	count = 5            // limbs of a number
	last  = count - 1    // the highest limb
	width = 26           // bits of a limb, but for what is not carried yet
	own   = 1<<width - 1 // a limb's own bits
	wrap  = 5            // what 2^130, the first bit above all limbs, is modulo the prime
	word  = 64           // bits of what a limb is kept in

	behind = 1 << (8*size - last*width) // the bit just behind a whole block, as it stands in the highest limb
)

// limbs are the digits of a number to the base 2^26, the lowest first. What is carried is below 2^130, and each limb is below 2^26, but for the first, which is below 2^26 + 5.
type limbs [count]uint64

// number is the one whose bytes, the lowest first, are the 16 of b.
func number(b []byte) limbs {
	low, high := octet.Get64(b), octet.Get64(b[size/2:])
	return limbs{
		low & own,
		low >> width & own,
		(low>>(2*width) | high<<(word-2*width)) & own,
		high >> (3*width - word) & own,
		high >> (4*width - word),
	}
}

// tag are the lowest 128 bits as bytes, the lowest first; what is above them is let go.
func (l limbs) tag() api.Tag {
	l, _ = l.passed(0)
	low := l[0] | l[1]<<width | l[2]<<(2*width)
	high := l[2]>>(word-2*width) | l[3]<<(3*width-word) | l[4]<<(4*width-word)
	var out api.Tag
	copy(out[:], octet.Put64(octet.Put64(nil, low), high))
	return out
}

// plus are the sums of the limbs, not carried.
func (l limbs) plus(m limbs) limbs {
	for i, x := range m {
		l[i] += x
	}
	return l
}

// times is the product modulo the prime, of limbs below 2^28 by the multiplier's, which are below 2^26. The products are written out, as nearly all the time goes there, and a loop over them takes longer.
func (l limbs) times(r limbs) limbs {
	w1, w2, w3, w4 := r[1]*wrap, r[2]*wrap, r[3]*wrap, r[4]*wrap
	return limbs{
		l[0]*r[0] + l[1]*w4 + l[2]*w3 + l[3]*w2 + l[4]*w1,
		l[0]*r[1] + l[1]*r[0] + l[2]*w4 + l[3]*w3 + l[4]*w2,
		l[0]*r[2] + l[1]*r[1] + l[2]*r[0] + l[3]*w4 + l[4]*w3,
		l[0]*r[3] + l[1]*r[2] + l[2]*r[1] + l[3]*r[0] + l[4]*w4,
		l[0]*r[4] + l[1]*r[3] + l[2]*r[2] + l[3]*r[1] + l[4]*r[0],
	}.carried()
}

// carried is the same number modulo the prime, of limbs below 2^60. What goes out at the top comes in again at the bottom; the second time it is at most one, and then the number is a small one, so that the first limb has room for it.
func (l limbs) carried() limbs {
	l, over := l.passed(0)
	l, over = l.passed(over * wrap)
	l[0] += over * wrap
	return l
}

// least is the number below the prime that is the same one modulo the prime, of what is carried. The prime is in it at most once: once just if 5 more reach 2^130. Both ways take the same steps, so that the time they take does not tell which it was.
func (l limbs) least() limbs {
	_, over := l.passed(wrap)
	l, _ = l.passed(over * wrap)
	return l
}

// passed is the number with over added to it, each limb with its own bits alone, and what goes out at the top.
func (l limbs) passed(over uint64) (limbs, uint64) {
	for i := range l {
		over += l[i]
		l[i] = over & own
		over >>= width
	}
	return l, over
}
