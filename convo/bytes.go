package convo

import (
	"hollowtree/api"
	"hollowtree/octet"
)

// How many bytes a conversation has, and each text that is held: its number, its length, and the array in which it lies.
const (
	size     = 4 + 1 + 1 + api.MaxOut*api.MessageSize + 4 + 1 + mostHeld*heldSize
	heldSize = 4 + 1 + api.MaxText
)

// Put: P18.5. The bytes are as many whatever is said, so that nobody who sees how many there are learns of it.
func Put(c api.Convo) ([]byte, api.Errno) {
	if err := Check(c); err != api.OK {
		return nil, err
	}
	var bodies [api.MaxOut][api.MessageSize]byte
	for i, o := range c.Out {
		bodies[i] = o.Body
	}
	b := octet.Put32(nil, c.Next)
	b = append(b, byte(len(c.Out)), byte(c.Turn))
	for _, body := range bodies {
		b = append(b, body[:]...)
	}
	b = octet.Put32(b, c.Delivered)
	b = append(b, byte(len(c.Held)))
	var held [mostHeld]api.In
	copy(held[:], c.Held)
	for _, in := range held {
		b = putIn(b, in)
	}
	return b, api.OK
}

// putIn puts a text that is held behind b; the zero one, which stands where none is, makes noughts.
func putIn(b []byte, in api.In) []byte {
	var text [api.MaxText]byte
	n := copy(text[:], in.Text)
	b = append(octet.Put32(b, in.Seq), byte(n))
	return append(b, text[:]...)
}

// Get: P18.5. A conversation has one form alone: what is read has to be put as the same bytes, and so counts that are too great, and bytes that ought to be noughts, are found without looking for each.
func Get(b []byte) (api.Convo, api.Errno) {
	if len(b) != size {
		return api.Convo{}, api.ErrSize
	}
	c := read(octet.Read(b))
	if again, err := Put(c); err != api.OK || !octet.Equal(again, b) {
		return api.Convo{}, api.ErrConvo
	}
	return c, api.OK
}

// read reads what the bytes say as far as there is room for it.
func read(r *octet.Reader) api.Convo {
	var c api.Convo
	c.Next = r.U32()
	n := min(one(r), api.MaxOut)
	c.Turn = one(r)
	var bodies [api.MaxOut][api.MessageSize]byte
	for i := range bodies {
		copy(bodies[i][:], r.Raw(api.MessageSize))
	}
	seq := c.Next
	seq -= uint32(n)
	for _, body := range bodies[:n] {
		c.Out = append(c.Out, api.Out{Seq: seq, Body: body})
		seq++
	}
	c.Delivered = r.U32()
	for range min(one(r), mostHeld) {
		c.Held = append(c.Held, readIn(r))
	}
	return c
}

// readIn reads a text that is held from where a Reader is.
func readIn(r *octet.Reader) api.In {
	var in api.In
	in.Seq = r.U32()
	n := min(one(r), api.MaxText)
	in.Text = string(r.Raw(api.MaxText)[:n])
	return in
}

// one is the next byte, as a number.
func one(r *octet.Reader) int { return int(octet.Get64(r.Raw(1))) }
