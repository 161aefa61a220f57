package frame

import (
	"hollowtree/api"
	"hollowtree/octet"
)

// PutHeader: P14.1.
func PutHeader(h api.Header) []byte {
	b := append([]byte(nil), h.Key[:]...)
	b = octet.Put32(b, h.Prev)
	return octet.Put32(b, h.Number)
}

// GetHeader: P14.1.
func GetHeader(b []byte) (api.Header, api.Errno) {
	if len(b) != api.HeaderSize {
		return api.Header{}, api.ErrSize
	}
	return header(octet.Read(b)), api.OK
}

// header reads one from where a Reader is: a message begins with it, too.
func header(r *octet.Reader) api.Header {
	var h api.Header
	h.Key = r.Key()
	h.Prev = r.U32()
	h.Number = r.U32()
	return h
}

// PutMessage: P14.1.
func PutMessage(m api.Message) []byte { return append(PutHeader(m.Header), m.Body[:]...) }

// GetMessage: P14.1.
func GetMessage(b []byte) (api.Message, api.Errno) {
	if len(b) != api.MessageSize {
		return api.Message{}, api.ErrSize
	}
	r := octet.Read(b)
	m := api.Message{Header: header(r)}
	copy(m.Body[:], r.Raw(len(m.Body)))
	return m, api.OK
}

// PutExchange: P14.1.
func PutExchange(x api.Exchange) []byte {
	b := append([]byte(nil), x.Drop[:]...)
	return append(b, x.Body[:]...)
}

// GetExchange: P14.1.
func GetExchange(b []byte) (api.Exchange, api.Errno) {
	if len(b) != api.ExchangeSize {
		return api.Exchange{}, api.ErrSize
	}
	r := octet.Read(b)
	var x api.Exchange
	copy(x.Drop[:], r.Raw(len(x.Drop)))
	copy(x.Body[:], r.Raw(len(x.Body)))
	return x, api.OK
}

// PutEnvelope: P14.2.
func PutEnvelope(e api.Envelope) ([]byte, api.Errno) {
	if !envelopeMayBe(e) {
		return nil, api.ErrField
	}
	b := []byte{byte(e.Kind)}
	b = octet.Put32(b, e.Ack)
	b = octet.Put32(b, e.Seq)
	return append(b, e.Body[:]...), api.OK
}

// GetEnvelope: P14.2.
func GetEnvelope(b []byte) (api.Envelope, api.Errno) {
	if len(b) != api.EnvelopeSize {
		return api.Envelope{}, api.ErrSize
	}
	r := octet.Read(b)
	var e api.Envelope
	e.Kind = one(r)
	e.Ack = r.U32()
	e.Seq = r.U32()
	copy(e.Body[:], r.Raw(len(e.Body)))
	if !envelopeMayBe(e) {
		return api.Envelope{}, api.ErrField
	}
	return e, api.OK
}

// envelopeMayBe lets an idle one say nothing but its Ack, so that there is one form of it alone.
func envelopeMayBe(e api.Envelope) bool {
	switch e.Kind {
	case api.EnvelopeIdle:
		return e.Seq == 0 && octet.Zero(e.Body[:])
	case api.EnvelopeText:
		return true
	}
	return false
}
