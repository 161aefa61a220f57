package curve

import (
	"hollowtree/api"
	"hollowtree/field"
)

const (
	top   = 254    // the highest bit of a clamped key
	slope = 121665 // (486662 - 2) / 4, of the curve y y = x x x + 486662 x x + x
)

// ladder is the place x2 over z2 that a clamped key k makes of the place x1. Each bit takes the same steps, so that the time they take does not tell the key.
func ladder(k api.Key, x1 field.Elem) (x2, z2 field.Elem) {
	x2, z2 = field.Of(1), field.Of(0)
	x3, z3 := x1, field.Of(1)
	at, bit := top, 0
next:
	bit = int(k[at>>3] >> (at & 7) & 1)
	x2, x3 = field.Swap(bit, x2, x3)
	z2, z3 = field.Swap(bit, z2, z3)
	x2, z2, x3, z3 = step(x1, x2, z2, x3, z3)
	x2, x3 = field.Swap(bit, x2, x3)
	z2, z3 = field.Swap(bit, z2, z3)
	at--
	if at >= 0 {
		goto next
	}
	return x2, z2
}

// step doubles x2 over z2, and adds it to x3 over z3; x1 is what lies between them.
func step(x1, x2, z2, x3, z3 field.Elem) (twoX, twoZ, sumX, sumZ field.Elem) {
	da, cb, aa, bb, e := needs(x2, z2, x3, z3)
	twoX = aa.Mul(bb)
	twoZ = e.Mul(aa.Add(e.Times(slope)))
	sumX = da.Add(cb).Square()
	sumZ = x1.Mul(da.Sub(cb).Square())
	return twoX, twoZ, sumX, sumZ
}

// needs are the products from which a step is made, by the chapter's letters.
func needs(x2, z2, x3, z3 field.Elem) (da, cb, aa, bb, e field.Elem) {
	a, b := x2.Add(z2), x2.Sub(z2)
	c, d := x3.Add(z3), x3.Sub(z3)
	da, cb = d.Mul(a), c.Mul(b)
	aa, bb = a.Square(), b.Square()
	e = aa.Sub(bb)
	return da, cb, aa, bb, e
}
