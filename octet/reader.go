package octet

import (
	"bytes"

	"hollowtree/api"
)

// place is where a Reader is: how many bytes it has taken, and why it takes no more.
type place struct {
	at  int
	err api.Errno
}

// Reader reads bytes from where it is; Read makes it.
type Reader struct {
	place
	data []byte
}

// Read: P1.3. The bytes are copied: they are those that b has now, whatever becomes of b.
func Read(b []byte) *Reader { return &Reader{data: bytes.Clone(b)} }

// U16: P1.3.
func (r *Reader) U16() uint16 { return uint16(number(r.take(size16))) }

// U32: P1.3.
func (r *Reader) U32() uint32 { return uint32(number(r.take(size32))) }

// U64: P1.3.
func (r *Reader) U64() uint64 { return number(r.take(size64)) }

// Raw: P1.3. What is answered is a copy: the Reader's own bytes could be changed through it.
func (r *Reader) Raw(n int) []byte { return bytes.Clone(r.take(n)) }

// Key: P1.3.
func (r *Reader) Key() api.Key {
	var k api.Key
	copy(k[:], r.take(len(k)))
	return k
}

// Left: P1.3.
func (r *Reader) Left() int {
	if r == nil {
		return 0
	}
	return len(r.data) - r.at
}

// Err: P1.3.
func (r *Reader) Err() api.Errno {
	if r == nil {
		return api.ErrNil
	}
	return r.err
}

// take moves behind the next n bytes, which stay the Reader's own. It answers none, of which all reads make zero, where it can't.
func (r *Reader) take(n int) []byte {
	if r.Err() != api.OK {
		return nil
	}
	if n < 0 {
		r.err = api.ErrArg
		return nil
	}
	if n > r.Left() {
		r.err = api.ErrShort
		return nil
	}
	from := r.at
	r.at += n
	return r.data[from:r.at]
}
