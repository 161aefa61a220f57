package frame_test

import (
	"bytes"
	"encoding/binary"
	"math"
	"reflect"
	"slices"
	"testing"

	"hollowtree/api"
	"hollowtree/frame"
)

// text is n bytes, others for each kind; neither the first nor the last one is a nought.
func text(kind, n int) []byte {
	b := make([]byte, n)
	for i := range b {
		b[i] = byte(i*i + 31*i*kind + 5*kind + i>>6)
	}
	if n > 0 {
		b[0] |= 1
		b[n-1] |= 2
	}
	return b
}

func noughts(n int) []byte { return make([]byte, n) }

func times(n int, c byte) []byte { return bytes.Repeat([]byte{c}, n) }

// The low forms of numbers, by the library.
func low32(x uint32) []byte { return binary.LittleEndian.AppendUint32(nil, x) }

func low64(x uint64) []byte { return binary.LittleEndian.AppendUint64(nil, x) }

func key(kind int) api.Key { return api.Key(text(kind, 32)) }

// keys are n of them, all unlike.
func keys(n int) []api.Key {
	var list []api.Key
	for i := range n {
		list = append(list, key(i+1))
	}
	return list
}

// changed is a copy of b with another byte at a place.
func changed(b []byte, at int, c byte) []byte {
	b = bytes.Clone(b)
	b[at] = c
	return b
}

// puts holds what a Put answered against the bytes that there should be.
func puts(t *testing.T, what string, b []byte, err api.Errno, want []byte) {
	t.Helper()
	if err != api.OK || !bytes.Equal(b, want) {
		t.Errorf("%s: % x, %d; not % x", what, b, err, want)
	}
}

// gets holds what a Get answered against the record that there should be.
func gets[T any](t *testing.T, what string, got T, err api.Errno, want T) {
	t.Helper()
	if err != api.OK || !reflect.DeepEqual(got, want) {
		t.Errorf("%s: %v, %d; not %v", what, got, err, want)
	}
}

// refuses holds a call to an error, beside which the other result is zero.
func refuses[T any](t *testing.T, what string, got T, err, want api.Errno) {
	t.Helper()
	var zero T
	if err != want || !reflect.DeepEqual(got, zero) {
		t.Errorf("%s: %v, %d; not %v, %d", what, got, err, zero, want)
	}
}

// reading is a Get, whatever its record: the tests that hold for all of them go by it.
type reading struct {
	name  string
	sizes []int // how many bytes a record of it has
	field bool  // whether bytes of these sizes can be wrong
	get   func(b []byte) (any, api.Errno)
	zero  any
	right [][]byte // bytes of records that may be
}

func anyOf[T any](get func([]byte) (T, api.Errno)) (func([]byte) (any, api.Errno), any) {
	var zero T
	return func(b []byte) (any, api.Errno) { return get(b) }, zero
}

// readings are all of them; the bytes of records are the tests' own.
func readings() []reading {
	list := []reading{
		{name: "GetHeader", sizes: []int{40}, right: [][]byte{text(1, 40)}},
		{name: "GetMessage", sizes: []int{105}, right: [][]byte{text(2, 105)}},
		{name: "GetExchange", sizes: []int{146}, right: [][]byte{text(3, 146)}},
		{name: "GetEnvelope", sizes: []int{114}, field: true, right: [][]byte{
			slices.Concat([]byte{0}, low32(0x04030201), noughts(109)),
			slices.Concat([]byte{1}, text(4, 113)),
		}},
		{name: "GetAnnounce", sizes: []int{106}, field: true, right: [][]byte{
			announceBytes(0x0807060504030201, keys(1)),
			announceBytes(0x0807060504030201, keys(2)),
			announceBytes(0x0807060504030201, keys(3)),
		}},
		{name: "GetUp", sizes: []int{205, 253, 301}, field: true, right: packetsBytes(2, 194, 242, 290)},
		{name: "GetDown", sizes: []int{157, 173, 189}, field: true, right: packetsBytes(3, 146, 162, 178)},
	}
	list[0].get, list[0].zero = anyOf(frame.GetHeader)
	list[1].get, list[1].zero = anyOf(frame.GetMessage)
	list[2].get, list[2].zero = anyOf(frame.GetExchange)
	list[3].get, list[3].zero = anyOf(frame.GetEnvelope)
	list[4].get, list[4].zero = anyOf(frame.GetAnnounce)
	list[5].get, list[5].zero = anyOf(frame.GetUp)
	list[6].get, list[6].zero = anyOf(frame.GetDown)
	return list
}

// answers holds a reading to an error, beside which the record is zero.
func (r reading) answers(t *testing.T, what string, b []byte, want api.Errno) {
	t.Helper()
	got, err := r.get(b)
	if err != want {
		t.Errorf("%s of %s: %d, not %d", r.name, what, err, want)
	}
	if err != api.OK && !reflect.DeepEqual(got, r.zero) {
		t.Errorf("%s of %s: %v beside %d", r.name, what, got, err)
	}
}

// announceBytes are those of an Announce by the chapter's words, whether it may be or not, as long as it has room.
func announceBytes(round uint64, hops []api.Key) []byte {
	b := slices.Concat([]byte{1}, low64(round), []byte{byte(len(hops))})
	for _, k := range hops {
		b = append(b, k[:]...)
	}
	return append(b, noughts(max(0, 106-len(b)))...)
}

// packetBytes are those of an Up or a Down by the chapter's words, whether it may be or not.
func packetBytes(first, client, slot byte, round uint64, body []byte) []byte {
	return slices.Concat([]byte{first, client, slot}, low64(round), body)
}

func packetsBytes(first byte, sizes ...int) [][]byte {
	var list [][]byte
	for i, n := range sizes {
		list = append(list, packetBytes(first, 3-byte(i), byte(i), 0x0807060504030201, text(i, n)))
	}
	return list
}

// The chapter's examples of headers and envelopes, row by row (P14.1, P14.2).
func TestExamplesOfRecords(t *testing.T) {
	puts(t, "PutHeader", frame.PutHeader(api.Header{Prev: 1, Number: 258}), api.OK, slices.Concat(noughts(32), []byte{1, 0, 0, 0}, []byte{2, 1, 0, 0}))
	b, err := frame.PutEnvelope(api.Envelope{Kind: 0, Ack: 7})
	puts(t, "PutEnvelope", b, err, slices.Concat([]byte{0}, []byte{7, 0, 0, 0}, noughts(109)))
	b, err = frame.PutEnvelope(api.Envelope{Kind: 0, Seq: 1})
	refuses(t, "PutEnvelope, idle with a Seq", b, err, api.ErrField)
	b, err = frame.PutEnvelope(api.Envelope{Kind: 2})
	refuses(t, "PutEnvelope of kind 2", b, err, api.ErrField)
	e, err := frame.GetEnvelope(noughts(113))
	refuses(t, "GetEnvelope of 113 bytes", e, err, api.ErrSize)
	e, err = frame.GetEnvelope(times(114, 2))
	refuses(t, "GetEnvelope of 114 bytes 02", e, err, api.ErrField)
}

// The chapter's examples of frames, row by row (P14.3, P14.4).
func TestExamplesOfFrames(t *testing.T) {
	hops := []api.Key{api.Key(times(32, 1))}
	bytes1 := slices.Concat([]byte{1}, []byte{1, 0, 0, 0, 0, 0, 0, 0}, []byte{1}, times(32, 1), noughts(64))
	b, err := frame.PutAnnounce(api.Announce{Round: 1, Hops: hops})
	puts(t, "PutAnnounce", b, err, bytes1)
	a, err := frame.GetAnnounce(changed(bytes1, 105, 1))
	refuses(t, "GetAnnounce with the last byte 01", a, err, api.ErrField)
	a, err = frame.GetAnnounce(changed(bytes1, 1, 0))
	refuses(t, "GetAnnounce of the round 0", a, err, api.ErrField)
	b, err = frame.PutAnnounce(api.Announce{Hops: hops})
	refuses(t, "PutAnnounce of the round 0", b, err, api.ErrField)
	b, err = frame.PutUp(api.Up{Round: 1, Onion: noughts(194)})
	if err != api.OK || len(b) != 205 {
		t.Errorf("PutUp: %d bytes, %d", len(b), err)
	}
	b, err = frame.PutUp(api.Up{Client: 4, Round: 1, Onion: noughts(194)})
	refuses(t, "PutUp of client 4", b, err, api.ErrField)
	b, err = frame.PutUp(api.Up{Slot: 3, Round: 1, Onion: noughts(194)})
	refuses(t, "PutUp of slot 3", b, err, api.ErrField)
	b, err = frame.PutUp(api.Up{Round: 1, Onion: noughts(195)})
	refuses(t, "PutUp of 195 bytes", b, err, api.ErrField)
}

// P14.5: sizes at all counts of hops, and at the ends of what an int holds.
func TestSizes(t *testing.T) {
	for _, c := range []struct{ hops, onion, reply int }{
		{math.MinInt, 0, 0}, {math.MinInt + 1, 0, 0}, {-1, 0, 0}, {0, 0, 0},
		{1, 194, 146}, {2, 242, 162}, {3, 290, 178},
		{4, 0, 0}, {5, 0, 0}, {256 + 1, 0, 0}, {1<<32 + 1, 0, 0}, {math.MaxInt - 1, 0, 0}, {math.MaxInt, 0, 0},
	} {
		if n := frame.OnionSize(c.hops); n != c.onion {
			t.Errorf("OnionSize(%d): %d, not %d", c.hops, n, c.onion)
		}
		if n := frame.ReplySize(c.hops); n != c.reply {
			t.Errorf("ReplySize(%d): %d, not %d", c.hops, n, c.reply)
		}
	}
}

// P14.1 to P14.4: what has another count of bytes is ErrSize, whatever the bytes are: all that could be wrong with them comes behind it.
func TestCountsOfBytes(t *testing.T) {
	for _, r := range readings() {
		r.answers(t, "nil", nil, api.ErrSize)
		r.answers(t, "no bytes", []byte{}, api.ErrSize)
		for n := range 700 {
			want := api.ErrSize
			if slices.Contains(r.sizes, n) {
				want = api.OK
				if r.field {
					want = api.ErrField
				}
			}
			r.answers(t, "bytes ff", times(n, 0xff), want)
		}
	}
}

// P14.1 to P14.4: a right record, but for one byte less or more, ahead or behind, or twice.
func TestCountsOfRightBytes(t *testing.T) {
	for _, r := range readings() {
		for _, b := range r.right {
			r.answers(t, "a right one", b, api.OK)
			r.answers(t, "a byte less behind", b[:len(b)-1], api.ErrSize)
			r.answers(t, "a byte less ahead", b[1:], api.ErrSize)
			r.answers(t, "a byte more behind", append(bytes.Clone(b), 0), api.ErrSize)
			r.answers(t, "a byte more ahead", append([]byte{0}, b...), api.ErrSize)
			r.answers(t, "it twice", append(bytes.Clone(b), b...), api.ErrSize)
			r.answers(t, "a first byte that is another one, and a byte less", changed(b, 0, 0xff)[:len(b)-1], api.ErrSize)
		}
	}
}

// P14.1 to P14.5: the sizes of package api and those that calls tell are those of the records.
func TestSizesAreTold(t *testing.T) {
	list := readings()
	for i, n := range []int{api.HeaderSize, api.MessageSize, api.ExchangeSize, api.EnvelopeSize, api.AnnounceSize} {
		if n != list[i].sizes[0] {
			t.Errorf("%s: %d", list[i].name, n)
		}
	}
	for hops := 1; hops <= api.MaxHops; hops++ {
		if n := api.UpSize + frame.OnionSize(hops); n != list[5].sizes[hops-1] {
			t.Errorf("an Up of %d hops: %d", hops, n)
		}
		if n := api.UpSize + frame.ReplySize(hops); n != list[6].sizes[hops-1] {
			t.Errorf("a Down of %d hops: %d", hops, n)
		}
	}
}
