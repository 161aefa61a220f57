package ratchet

import (
	"hollowtree/api"
	"hollowtree/octet"
)

// fill makes all texts one length: their count ahead, noughts behind.
func fill(text string) []byte {
	var plain [1 + api.MaxText]byte
	plain[0] = byte(len(text))
	copy(plain[1:], text)
	return plain[:]
}

// textOf takes the text out of what fill made, and tells whether fill could have made it: each text has one form.
func textOf(plain []byte) (text string, right bool) {
	n := int(plain[0])
	if n < 1 || n > api.MaxText || !octet.Zero(plain[1+n:]) {
		return "", false
	}
	return string(plain[1 : 1+n]), true
}

// Put: P17.4.
func Put(r api.Ratchet) ([]byte, api.Errno) {
	if err := Check(r); err != api.OK {
		return nil, err
	}
	b := make([]byte, 0, api.RatchetSize)
	for _, key := range [...]api.Key{r.Root, r.Own, r.Peer, r.Send, r.Receive} {
		b = append(b, key[:]...)
	}
	for _, number := range [...]uint32{r.Sent, r.Received, r.Before} {
		b = octet.Put32(b, number)
	}
	b = append(b, byte(len(r.Skipped)))
	for _, s := range r.Skipped {
		b = octet.Put32(append(b, s.Key[:]...), s.Number)
		b = append(b, s.Secret[:]...)
	}
	return append(b, make([]byte, api.RatchetSize-len(b))...), api.OK
}

// Get: P17.4. Where the count says more keys than the bytes have room for, noughts are read, and so many keys may not be.
func Get(b []byte) (api.Ratchet, api.Errno) {
	if len(b) != api.RatchetSize {
		return api.Ratchet{}, api.ErrSize
	}
	r := octet.Read(b)
	var got api.Ratchet
	got.Root = r.Key()
	got.Own = r.Key()
	got.Peer = r.Key()
	got.Send = r.Key()
	got.Receive = r.Key()
	got.Sent = r.U32()
	got.Received = r.U32()
	got.Before = r.U32()
	for range octet.Get64(r.Raw(1)) {
		got.Skipped = append(got.Skipped, skip(r))
	}
	if Check(got) != api.OK || !octet.Zero(r.Raw(r.Left())) {
		return api.Ratchet{}, api.ErrRatchet
	}
	return got, api.OK
}

// skip reads a key that was passed over from where a Reader is.
func skip(r *octet.Reader) api.Skip {
	var s api.Skip
	s.Key = r.Key()
	s.Number = r.U32()
	s.Secret = r.Key()
	return s
}
