package frame_test

import (
	"fmt"
	"math"
	"slices"
	"testing"

	"hollowtree/api"
	"hollowtree/frame"
)

// packet is an Up or a Down, as the tests say it.
type packet struct {
	client, slot int
	round        uint64
	body         []byte
}

// way is one of the two kinds of packets: its calls, in the words of a packet.
type way struct {
	name         string
	first        byte
	sizes, other []int // of bodies of 1 to 3 hops; of the other way's
	put          func(p packet) ([]byte, api.Errno)
	get          func(b []byte) (packet, api.Errno)
}

func ways() []way {
	onions, replies := []int{194, 242, 290}, []int{146, 162, 178}
	up := way{name: "Up", first: 2, sizes: onions, other: replies}
	up.put = func(p packet) ([]byte, api.Errno) {
		return frame.PutUp(api.Up{Client: p.client, Slot: p.slot, Round: p.round, Onion: p.body})
	}
	up.get = func(b []byte) (packet, api.Errno) {
		u, err := frame.GetUp(b)
		return packet{u.Client, u.Slot, u.Round, u.Onion}, err
	}
	down := way{name: "Down", first: 3, sizes: replies, other: onions}
	down.put = func(p packet) ([]byte, api.Errno) {
		return frame.PutDown(api.Down{Client: p.client, Slot: p.slot, Round: p.round, Reply: p.body})
	}
	down.get = func(b []byte) (packet, api.Errno) {
		d, err := frame.GetDown(b)
		return packet{d.Client, d.Slot, d.Round, d.Reply}, err
	}
	return []way{up, down}
}

// may puts one that may be, and gets it of its bytes.
func (w way) may(t *testing.T, p packet) {
	t.Helper()
	want := slices.Concat([]byte{w.first, byte(p.client), byte(p.slot)}, low64(p.round), p.body)
	b, err := w.put(p)
	puts(t, "Put"+w.name, b, err, want)
	got, err := w.get(want)
	gets(t, "Get"+w.name, got, err, p)
}

// mayNot puts one that may not be.
func (w way) mayNot(t *testing.T, what string, p packet) {
	t.Helper()
	b, err := w.put(p)
	refuses(t, "Put"+w.name+" of "+what, b, err, api.ErrField)
}

// none gets bytes that are no packet's.
func (w way) none(t *testing.T, what string, b []byte, want api.Errno) {
	t.Helper()
	p, err := w.get(b)
	refuses(t, "Get"+w.name+" of "+what, p, err, want)
}

// P14.4: a packet's bytes, field by field, and back: each client, slot, count of hops, and rounds of all sizes.
func TestPacket(t *testing.T) {
	for _, w := range ways() {
		for i, n := range w.sizes {
			for client := range 4 {
				for slot := range 3 {
					w.may(t, packet{client, slot, 0x0807060504030201, text(client+4*slot, n)})
				}
			}
			for _, round := range rounds() {
				w.may(t, packet{i, 2 - i, round, text(i, n)})
			}
			w.may(t, packet{0, 0, 1, noughts(n)})
			w.may(t, packet{3, 2, math.MaxUint64, times(n, 0xff)})
		}
	}
}

// wrong are numbers that are not from 0 to end less one, also such whose lowest byte is.
func wrong(end int) []int {
	return []int{math.MinInt, math.MinInt + 1, -256, -255, -1, end, end + 1, 255, 256, 256 + 1, 1 << 32, 1<<32 + 1, math.MaxInt - 1, math.MaxInt}
}

// P14.4: clients, slots and rounds that may not be.
func TestPacketFields(t *testing.T) {
	for _, w := range ways() {
		for _, n := range w.sizes {
			for _, client := range wrong(4) {
				w.mayNot(t, fmt.Sprint("client ", client), packet{client, 0, 1, text(1, n)})
			}
			for _, slot := range wrong(3) {
				w.mayNot(t, fmt.Sprint("slot ", slot), packet{0, slot, 1, text(1, n)})
			}
			w.mayNot(t, "round 0", packet{0, 0, 0, text(1, n)})
			w.mayNot(t, "client 4 and slot 3 in round 0", packet{4, 3, 0, text(1, n)})
		}
	}
}

// P14.4: bodies of whatever other size, those of the other way among them.
func TestPacketBodies(t *testing.T) {
	for _, w := range ways() {
		for n := range 700 {
			if !slices.Contains(w.sizes, n) {
				w.mayNot(t, fmt.Sprint("a body of ", n), packet{0, 0, 1, text(1, n)})
				w.none(t, fmt.Sprint("a body of ", n), packetBytes(w.first, 0, 0, 1, text(1, n)), api.ErrSize)
			}
		}
		for _, n := range w.other {
			w.mayNot(t, "the other way's body", packet{1, 1, 1, text(1, n)})
			w.none(t, "the other way's body", packetBytes(w.first, 1, 1, 1, text(1, n)), api.ErrSize)
			w.none(t, "the other way's packet", packetBytes(5-w.first, 1, 1, 1, text(1, n)), api.ErrSize)
		}
		w.mayNot(t, "no body", packet{0, 0, 1, nil})
		w.mayNot(t, "a body of no bytes", packet{0, 0, 1, []byte{}})
		w.mayNot(t, "all that can be wrong", packet{-1, -1, 0, nil})
		w.none(t, "what goes ahead of a body alone", packetBytes(w.first, 0, 0, 1, nil), api.ErrSize)
	}
}

// P14.4: bytes of a packet's size that are none: each other first byte, each client's and slot's byte that may not be, the round 0.
func TestNoPacketOfBytes(t *testing.T) {
	for _, w := range ways() {
		for _, n := range w.sizes {
			right := packetBytes(w.first, 3, 2, 9, text(1, n))
			for c := range 256 {
				if byte(c) != w.first {
					w.none(t, fmt.Sprint("the first byte ", c), changed(right, 0, byte(c)), api.ErrField)
				}
				if c >= 4 {
					w.none(t, fmt.Sprint("client ", c), changed(right, 1, byte(c)), api.ErrField)
				}
				if c >= 3 {
					w.none(t, fmt.Sprint("slot ", c), changed(right, 2, byte(c)), api.ErrField)
				}
			}
			w.none(t, "round 0", packetBytes(w.first, 3, 2, 0, text(1, n)), api.ErrField)
			w.none(t, "all that can be wrong", packetBytes(0, 4, 3, 0, text(1, n)), api.ErrField)
			w.none(t, "all that can be wrong, and a byte less", packetBytes(0, 4, 3, 0, text(1, n-1)), api.ErrSize)
			w.none(t, "all that can be wrong, and a byte more", packetBytes(0, 4, 3, 0, text(1, n+1)), api.ErrSize)
		}
	}
}
