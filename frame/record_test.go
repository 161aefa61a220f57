package frame_test

import (
	"fmt"
	"math"
	"slices"
	"testing"

	"hollowtree/api"
	"hollowtree/frame"
)

// numbers of four bytes: the least, the greatest, such whose bytes are all unlike, and one of each bit.
func numbers() []uint32 {
	list := []uint32{0, 1, 0x04030201, 0xfcfdfeff, math.MaxUint32 - 1, math.MaxUint32}
	for bit := range 32 {
		list = append(list, 1<<bit)
	}
	return list
}

// P14.1: a header's bytes, field by field, and back.
func TestHeader(t *testing.T) {
	for i, x := range numbers() {
		for _, h := range []api.Header{{Key: key(i), Prev: x}, {Key: key(i), Number: x}, {Key: key(i), Prev: x, Number: ^x}} {
			want := slices.Concat(h.Key[:], low32(h.Prev), low32(h.Number))
			puts(t, "PutHeader", frame.PutHeader(h), api.OK, want)
			got, err := frame.GetHeader(want)
			gets(t, "GetHeader", got, err, h)
		}
	}
	all := api.Header{Key: api.Key(times(32, 0xff)), Prev: math.MaxUint32, Number: math.MaxUint32}
	puts(t, "PutHeader of the greatest", frame.PutHeader(all), api.OK, times(40, 0xff))
	got, err := frame.GetHeader(times(40, 0xff))
	gets(t, "GetHeader of the greatest", got, err, all)
	got, err = frame.GetHeader(noughts(40))
	gets(t, "GetHeader of the least", got, err, api.Header{})
	puts(t, "PutHeader of the least", frame.PutHeader(api.Header{}), api.OK, noughts(40))
}

// P14.1: a message's bytes, field by field, and back.
func TestMessage(t *testing.T) {
	for i, x := range numbers() {
		m := api.Message{Header: api.Header{Key: key(i), Prev: x, Number: ^x}, Body: [65]byte(text(i, 65))}
		want := slices.Concat(m.Header.Key[:], low32(x), low32(^x), m.Body[:])
		puts(t, "PutMessage", frame.PutMessage(m), api.OK, want)
		got, err := frame.GetMessage(want)
		gets(t, "GetMessage", got, err, m)
	}
	all := api.Message{Header: api.Header{Key: api.Key(times(32, 0xff)), Prev: math.MaxUint32, Number: math.MaxUint32}, Body: [65]byte(times(65, 0xff))}
	puts(t, "PutMessage of the greatest", frame.PutMessage(all), api.OK, times(105, 0xff))
	got, err := frame.GetMessage(times(105, 0xff))
	gets(t, "GetMessage of the greatest", got, err, all)
	got, err = frame.GetMessage(noughts(105))
	gets(t, "GetMessage of the least", got, err, api.Message{})
	puts(t, "PutMessage of the least", frame.PutMessage(api.Message{}), api.OK, noughts(105))
}

// P14.1: an exchange's bytes, field by field, and back.
func TestExchange(t *testing.T) {
	for i := range 40 {
		x := api.Exchange{Drop: api.Drop(text(i+50, 16)), Body: [130]byte(text(i, 130))}
		want := slices.Concat(x.Drop[:], x.Body[:])
		puts(t, "PutExchange", frame.PutExchange(x), api.OK, want)
		got, err := frame.GetExchange(want)
		gets(t, "GetExchange", got, err, x)
	}
	all := api.Exchange{Drop: api.Drop(times(16, 0xff)), Body: [130]byte(times(130, 0xff))}
	puts(t, "PutExchange of the greatest", frame.PutExchange(all), api.OK, times(146, 0xff))
	got, err := frame.GetExchange(times(146, 0xff))
	gets(t, "GetExchange of the greatest", got, err, all)
	got, err = frame.GetExchange(noughts(146))
	gets(t, "GetExchange of the least", got, err, api.Exchange{})
	puts(t, "PutExchange of the least", frame.PutExchange(api.Exchange{}), api.OK, noughts(146))
}

// envelope puts one that may be, and gets it of its bytes.
func envelope(t *testing.T, e api.Envelope) {
	t.Helper()
	want := slices.Concat([]byte{byte(e.Kind)}, low32(e.Ack), low32(e.Seq), e.Body[:])
	b, err := frame.PutEnvelope(e)
	puts(t, "PutEnvelope", b, err, want)
	got, err := frame.GetEnvelope(want)
	gets(t, "GetEnvelope", got, err, e)
}

// noEnvelope puts one that may not be, and gets it of its bytes, if its kind is such that there are any.
func noEnvelope(t *testing.T, what string, e api.Envelope) {
	t.Helper()
	b, err := frame.PutEnvelope(e)
	refuses(t, "PutEnvelope of "+what, b, err, api.ErrField)
	if e.Kind < 0 || e.Kind > 255 {
		return
	}
	got, err := frame.GetEnvelope(slices.Concat([]byte{byte(e.Kind)}, low32(e.Ack), low32(e.Seq), e.Body[:]))
	refuses(t, "GetEnvelope of "+what, got, err, api.ErrField)
}

// P14.2: an envelope of a text says whatever it says.
func TestEnvelopeOfText(t *testing.T) {
	for i, x := range numbers() {
		envelope(t, api.Envelope{Kind: 1, Ack: x})
		envelope(t, api.Envelope{Kind: 1, Seq: x})
		envelope(t, api.Envelope{Kind: 1, Ack: x, Seq: ^x, Body: [105]byte(text(i, 105))})
	}
	envelope(t, api.Envelope{Kind: 1, Ack: math.MaxUint32, Seq: math.MaxUint32, Body: [105]byte(times(105, 0xff))})
}

// P14.2: an idle envelope has whatever Ack, and nothing else.
func TestEnvelopeIdle(t *testing.T) {
	for _, x := range numbers() {
		envelope(t, api.Envelope{Ack: x})
		if x > 0 {
			noEnvelope(t, fmt.Sprint("an idle one with the Seq ", x), api.Envelope{Seq: x})
			noEnvelope(t, fmt.Sprint("an idle one with an Ack and the Seq ", x), api.Envelope{Ack: x, Seq: x})
		}
	}
	for at := range 105 {
		for _, c := range []byte{1, 0x80, 0xff} {
			e := api.Envelope{Ack: 7}
			e.Body[at] = c
			noEnvelope(t, fmt.Sprint("an idle one with another byte at ", at), e)
			e.Kind = 1
			envelope(t, e)
		}
	}
}

// P14.2: there are no other kinds, also where the lowest byte is that of one that there is.
func TestEnvelopeKinds(t *testing.T) {
	kinds := []int{math.MinInt, math.MinInt + 1, -256, -255, -2, -1, 256, 257, 1 << 32, 1<<32 + 1, math.MaxInt - 1, math.MaxInt}
	for kind := 2; kind < 256; kind++ {
		kinds = append(kinds, kind)
	}
	for _, kind := range kinds {
		what := fmt.Sprint("kind ", kind)
		noEnvelope(t, what, api.Envelope{Kind: kind})
		noEnvelope(t, what, api.Envelope{Kind: kind, Ack: 1, Seq: 2, Body: [105]byte(text(3, 105))})
	}
}
