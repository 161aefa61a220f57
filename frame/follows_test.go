package frame_test

import (
	"bytes"
	"encoding/binary"
	"fmt"
	"math/rand"
	"reflect"
	"testing"

	"hollowtree/api"
	"hollowtree/frame"
)

// allNoughts tells whether a list has nothing but noughts.
func allNoughts(b []byte) bool { return bytes.Count(b, []byte{0}) == len(b) }

// envelopeOf reads an envelope by the chapter's words.
func envelopeOf(b []byte) (api.Envelope, api.Errno) {
	if len(b) != 114 {
		return api.Envelope{}, api.ErrSize
	}
	if b[0] > 1 || b[0] == 0 && !allNoughts(b[5:]) {
		return api.Envelope{}, api.ErrField
	}
	return api.Envelope{
		Kind: int(b[0]),
		Ack:  binary.LittleEndian.Uint32(b[1:]),
		Seq:  binary.LittleEndian.Uint32(b[5:]),
		Body: [105]byte(b[9:]),
	}, api.OK
}

// announceOf reads an announcement by the chapter's words.
func announceOf(b []byte) (api.Announce, api.Errno) {
	if len(b) != 106 {
		return api.Announce{}, api.ErrSize
	}
	n := int(b[9])
	if b[0] != 1 || allNoughts(b[1:9]) || n < 1 || n > 3 || !allNoughts(b[10+32*n:]) {
		return api.Announce{}, api.ErrField
	}
	a := api.Announce{Round: binary.LittleEndian.Uint64(b[1:])}
	for i := range n {
		a.Hops = append(a.Hops, api.Key(b[10+32*i:][:32]))
	}
	return a, api.OK
}

// packetOf reads a packet by the chapter's words.
func (w way) packetOf(b []byte) (packet, api.Errno) {
	right := false
	for _, n := range w.sizes {
		right = right || len(b) == 11+n
	}
	if !right {
		return packet{}, api.ErrSize
	}
	if b[0] != w.first || b[1] > 3 || b[2] > 2 || allNoughts(b[3:11]) {
		return packet{}, api.ErrField
	}
	return packet{int(b[1]), int(b[2]), binary.LittleEndian.Uint64(b[3:]), b[11:]}, api.OK
}

// kindOf tells a frame's kind by the chapter's words.
func kindOf(b []byte) int {
	if _, err := announceOf(b); err == api.OK {
		return 1
	}
	for _, w := range ways() {
		if _, err := w.packetOf(b); err == api.OK {
			return int(w.first)
		}
	}
	return 0
}

// agrees holds what a Get answered against the reading by the chapter's words; what was got must be put as the same bytes (P14.6).
func agrees[T any](t *testing.T, what string, b []byte, get, plain func([]byte) (T, api.Errno), put func(T) ([]byte, api.Errno)) bool {
	t.Helper()
	got, err := get(b)
	want, wantErr := plain(b)
	if err != wantErr || !reflect.DeepEqual(got, want) {
		t.Errorf("Get%s of % x: %v, %d; not %v, %d", what, b, got, err, want, wantErr)
	}
	if err != api.OK {
		return false
	}
	if again, err := put(got); err != api.OK || !bytes.Equal(again, b) {
		t.Errorf("Put%s of what was got of % x: % x, %d", what, b, again, err)
	}
	return true
}

// read holds all Gets to bytes, and tells whether one of the frames' or the envelopes' reads them.
func read(t *testing.T, b []byte) bool {
	t.Helper()
	envelope := agrees(t, "Envelope", b, frame.GetEnvelope, envelopeOf, frame.PutEnvelope)
	kinds := []bool{agrees(t, "Announce", b, frame.GetAnnounce, announceOf, frame.PutAnnounce)}
	for _, w := range ways() {
		kinds = append(kinds, agrees(t, w.name, b, w.get, w.packetOf, w.put))
	}
	kind, count := 0, 0
	for i, reads := range kinds {
		if reads {
			kind = i + 1
			count++
		}
	}
	if count > 1 {
		t.Errorf("% x is read as %d kinds of frames", b, count)
	}
	if got := frame.Kind(b); got != kind {
		t.Errorf("Kind of % x: %d, not %d", b, got, kind)
	}
	return envelope || count > 0
}

// P14.2 to P14.6: right records with each byte changed to what it may be and may not be, held against a reading by the chapter's words.
func TestEachByteChanged(t *testing.T) {
	for _, r := range readings()[3:] {
		for i, b := range r.right {
			t.Run(fmt.Sprint(r.name, " ", i), func(t *testing.T) {
				for at := range b {
					for _, c := range []byte{0, 1, 2, 3, 4, 5, 0x7f, 0x80, 0xfe, 0xff} {
						read(t, changed(b, at, c))
					}
				}
			})
		}
	}
}

// P14.2 to P14.6: drawn bytes whose first ones are often such as they may be, of the sizes that there are and of others.
func TestDrawnBytes(t *testing.T) {
	r := rand.New(rand.NewSource(14))
	sizes := []int{106, 114, 157, 173, 189, 205, 253, 301}
	count := 0
	for range 20000 {
		b := make([]byte, sizes[r.Intn(len(sizes))]+max(0, r.Intn(8)-6))
		if r.Intn(2) == 0 {
			r.Read(b)
		}
		for i := range b[:12] {
			if r.Intn(3) > 0 {
				b[i] = byte(r.Intn(4))
			}
		}
		if r.Intn(8) == 0 {
			b[r.Intn(len(b))] = byte(r.Intn(256))
		}
		if read(t, b) {
			count++
		}
	}
	if count < 500 || count > 19500 {
		t.Errorf("%d of 20000 are read: the draws try too little", count)
	}
}

// P14.6: headers, messages and exchanges that are got of drawn bytes are put as the same bytes.
func TestGotIsPut(t *testing.T) {
	r := rand.New(rand.NewSource(15))
	for range 500 {
		b := make([]byte, 146)
		r.Read(b)
		h, err := frame.GetHeader(b[:40])
		puts(t, "PutHeader of what was got", frame.PutHeader(h), err, b[:40])
		m, err := frame.GetMessage(b[:105])
		puts(t, "PutMessage of what was got", frame.PutMessage(m), err, b[:105])
		x, err := frame.GetExchange(b)
		puts(t, "PutExchange of what was got", frame.PutExchange(x), err, b)
	}
}

// drawn is n drawn bytes.
func drawn(r *rand.Rand, n int) []byte {
	b := make([]byte, n)
	r.Read(b)
	return b
}

// sized holds bytes that were put to the size of their kind.
func sized(t *testing.T, what string, b []byte, err api.Errno, n int) []byte {
	t.Helper()
	if err != api.OK || len(b) != n {
		t.Errorf("%s: %d bytes, %d; not %d", what, len(b), err, n)
	}
	return b
}

// P14.6: drawn records of each kind have one size, and what was put is got.
func TestPutIsGot(t *testing.T) {
	r := rand.New(rand.NewSource(16))
	for range 500 {
		h := api.Header{Key: api.Key(drawn(r, 32)), Prev: r.Uint32(), Number: r.Uint32()}
		h2, err := frame.GetHeader(sized(t, "a Header", frame.PutHeader(h), api.OK, 40))
		gets(t, "GetHeader", h2, err, h)
		m := api.Message{Header: h, Body: [65]byte(drawn(r, 65))}
		m2, err := frame.GetMessage(sized(t, "a Message", frame.PutMessage(m), api.OK, 105))
		gets(t, "GetMessage", m2, err, m)
		x := api.Exchange{Drop: api.Drop(drawn(r, 16)), Body: [130]byte(drawn(r, 130))}
		x2, err := frame.GetExchange(sized(t, "an Exchange", frame.PutExchange(x), api.OK, 146))
		gets(t, "GetExchange", x2, err, x)
		for _, e := range []api.Envelope{{Ack: r.Uint32()}, {Kind: 1, Ack: r.Uint32(), Seq: r.Uint32(), Body: [105]byte(drawn(r, 105))}} {
			b, err := frame.PutEnvelope(e)
			e2, err := frame.GetEnvelope(sized(t, "an Envelope", b, err, 114))
			gets(t, "GetEnvelope", e2, err, e)
		}
	}
}

// P14.6: drawn frames of each kind, and of each count of hops, have one size, and what was put is got.
func TestPutFramesAreGot(t *testing.T) {
	r := rand.New(rand.NewSource(17))
	for range 500 {
		a := api.Announce{Round: r.Uint64() | 1}
		for range 1 + r.Intn(3) {
			a.Hops = append(a.Hops, api.Key(drawn(r, 32)))
		}
		b, err := frame.PutAnnounce(a)
		a2, err := frame.GetAnnounce(sized(t, "an Announce", b, err, 106))
		gets(t, "GetAnnounce", a2, err, a)
		for hops := 1; hops <= 3; hops++ {
			u := api.Up{Client: r.Intn(4), Slot: r.Intn(3), Round: r.Uint64() | 1, Onion: drawn(r, frame.OnionSize(hops))}
			b, err := frame.PutUp(u)
			u2, err := frame.GetUp(sized(t, "an Up", b, err, 157+48*hops))
			gets(t, "GetUp", u2, err, u)
			d := api.Down{Client: r.Intn(4), Slot: r.Intn(3), Round: r.Uint64() | 1, Reply: drawn(r, frame.ReplySize(hops))}
			b, err = frame.PutDown(d)
			d2, err := frame.GetDown(sized(t, "a Down", b, err, 141+16*hops))
			gets(t, "GetDown", d2, err, d)
		}
	}
}
