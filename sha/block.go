package sha

import "hollowtree/api"

// first is the state of no bytes.
var first = [8]uint32{
	0x6a09e667, 0xbb67ae85, 0x3c6ef372, 0xa54ff53a, 0x510e527f, 0x9b05688c, 0x1f83d9ab, 0x5be0cd19,
}

// roots are the constants k0 to k63, eight digits to the base 16 each: of the cube roots of the first 64 primes the first 32 bits behind the point.
const roots = "428a2f9871374491b5c0fbcfe9b5dba53956c25b59f111f1923f82a4ab1c5ed5" +
	"d807aa9812835b01243185be550c7dc372be5d7480deb1fe9bdc06a7c19bf174" +
	"e49b69c1efbe47860fc19dc6240ca1cc2de92c6f4a7484aa5cb0a9dc76f988da" +
	"983e5152a831c66db00327c8bf597fc7c6e00bf3d5a7914706ca635114292967" +
	"27b70a852e1b21384d2c6dfc53380d13650a7354766a0abb81c2c92e92722c85" +
	"a2bfe8a1a81a664bc24b8b70c76c51a3d192e819d6990624f40e3585106aa070" +
	"19a4c1161e376c082748774c34b0bcb5391c0cb34ed8aa4a5b9cca4f682e6ff3" +
	"748f82ee78a5636f84c878148cc7020890befffaa4506cebbef9a3f7c67178f2"

// take lets the whole blocks of b go into the state, and answers what is left of b.
func (h *Hash) take(b []byte) []byte {
	if len(b) < block {
		return b
	}
	k := constants()
	for len(b) >= block {
		h.state = steps(h.state, words(b[:block]), k)
		b = b[block:]
	}
	return b
}

// constants are k0 to k63 as words.
func constants() [64]uint32 {
	var k [64]uint32
	for i, digit := range roots {
		k[i/8] = k[i/8]<<4 | value(digit)
	}
	return k
}

// value is what a digit of the constants stands for.
func value(digit rune) uint32 {
	if digit >= 'a' {
		return uint32(digit-'a') + 10
	}
	return uint32(digit - '0')
}

// words are w0 to w63 of a block.
func words(b []byte) [64]uint32 {
	var w [64]uint32
	for i := range 16 {
		w[i] = uint32(b[4*i])<<24 | uint32(b[4*i+1])<<16 | uint32(b[4*i+2])<<8 | uint32(b[4*i+3])
	}
	for i := 16; i < 64; i++ {
		x, y := w[i-15], w[i-2]
		s0 := turn(x, 7) ^ turn(x, 18) ^ x>>3
		s1 := turn(y, 17) ^ turn(y, 19) ^ y>>10
		w[i] = s1 + w[i-7] + s0 + w[i-16]
	}
	return w
}

// steps is the state behind a block, of that ahead of it, the block's words and the constants.
func steps(s [8]uint32, w, k [64]uint32) [8]uint32 {
	a, b, c, d, e, f, g, h := s[0], s[1], s[2], s[3], s[4], s[5], s[6], s[7]
	for i := range 64 {
		s0 := turn(a, 2) ^ turn(a, 13) ^ turn(a, 22)
		s1 := turn(e, 6) ^ turn(e, 11) ^ turn(e, 25)
		t1 := h + s1 + (e&f ^ ^e&g) + k[i] + w[i]
		t2 := s0 + (a&b ^ a&c ^ b&c)
		h, g, f, e = g, f, e, d+t1
		d, c, b, a = c, b, a, t1+t2
	}
	return [8]uint32{s[0] + a, s[1] + b, s[2] + c, s[3] + d, s[4] + e, s[5] + f, s[6] + g, s[7] + h}
}

// turn is the right turn of x by n, from 1 to 31.
func turn(x uint32, n int) uint32 { return x>>n | x<<(32-n) }

// key is the state as bytes.
func key(s [8]uint32) api.Key {
	var out api.Key
	for i, x := range s {
		out[4*i], out[4*i+1], out[4*i+2], out[4*i+3] = byte(x>>24), byte(x>>16), byte(x>>8), byte(x)
	}
	return out
}
