package chacha

import "hollowtree/api"

// Where a block's words stand: the four that are always the same, then these.
const (
	keyAt     = 4
	counterAt = 12
	nonceAt   = 13
)

// words are those of a block.
type words [16]uint32

// begin are a block's words at first, but for the counter, which is 0.
func begin(key api.Key, nonce api.Nonce) words {
	w := words{0x61707865, 0x3320646e, 0x79622d32, 0x6b206574}
	for i, c := range key {
		w[keyAt+i/4] |= uint32(c) << (i % 4 * 8)
	}
	for i, c := range nonce {
		w[nonceAt+i/4] |= uint32(c) << (i % 4 * 8)
	}
	return w
}

// block is the one of that counter, whichever w has.
func (w words) block(counter uint32) [size]byte {
	w[counterAt] = counter
	return w.rounds().and(w).bytes()
}

// rounds are the words behind the twenty rounds.
func (w words) rounds() words {
	quarter := func(a, b, c, d int) {
		w[a], w[b], w[c], w[d] = Quarter(w[a], w[b], w[c], w[d])
	}
	for range 10 {
		quarter(0, 4, 8, 12)
		quarter(1, 5, 9, 13)
		quarter(2, 6, 10, 14)
		quarter(3, 7, 11, 15)
		quarter(0, 5, 10, 15)
		quarter(1, 6, 11, 12)
		quarter(2, 7, 8, 13)
		quarter(3, 4, 9, 14)
	}
	return w
}

// and are the sums of the words of w and v.
func (w words) and(v words) words {
	for i, x := range v {
		w[i] += x
	}
	return w
}

// bytes are the words' bytes, the lowest of each first.
func (w words) bytes() [size]byte {
	var out [size]byte
	for i := range out {
		out[i] = byte(w[i/4] >> (i % 4 * 8))
	}
	return out
}
