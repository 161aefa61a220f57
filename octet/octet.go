// Package octet is layer 1: numbers as bytes, the lowest first, and bytes held against each other (see shared/doc/01-octet.md).
package octet

// How many bytes the low form of a number has.
const (
	size16 = 2
	size32 = 4
	size64 = 8
)

// Put16: P1.1.
func Put16(b []byte, x uint16) []byte { return put(b, uint64(x), size16) }

// Put32: P1.1.
func Put32(b []byte, x uint32) []byte { return put(b, uint64(x), size32) }

// Put64: P1.1.
func Put64(b []byte, x uint64) []byte { return put(b, x, size64) }

// put copies b first: an append to b itself could write into the room behind its end, which is the caller's.
func put(b []byte, x uint64, size int) []byte {
	out := make([]byte, len(b)+size)
	for i := copy(out, b); i < len(out); i++ {
		out[i] = byte(x)
		x >>= 8
	}
	return out
}

// Get64: P1.1.
func Get64(b []byte) uint64 { return number(b[:min(len(b), size64)]) }

// number is the one whose low form begins with b, at most eight bytes.
func number(b []byte) uint64 {
	var x uint64
	for i, c := range b {
		x |= uint64(c) << (8 * i)
	}
	return x
}

// Equal: P1.2. It looks at every byte, so that the time it takes does not tell where the first unlike one is.
func Equal(a, b []byte) bool {
	if len(a) != len(b) {
		return false
	}
	var unlike byte
	for i, c := range a {
		unlike |= c ^ b[i]
	}
	return unlike == 0
}

// Zero: P1.2. It looks at every byte, as Equal does.
func Zero(b []byte) bool {
	var all byte
	for _, c := range b {
		all |= c
	}
	return all == 0
}

// Xor: P1.2.
func Xor(a, b []byte) []byte {
	out := make([]byte, min(len(a), len(b)))
	copy(out, a)
	for i := range out {
		out[i] ^= b[i]
	}
	return out
}
