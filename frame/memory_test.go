package frame_test

import (
	"bytes"
	"reflect"
	"slices"
	"testing"

	"hollowtree/api"
	"hollowtree/frame"
)

// roomy is a copy of b with room behind its end that is filled, and all of it together.
func roomy(b []byte) (list, all []byte) {
	all = append(bytes.Clone(b), times(400, 0xee)...)
	return all[:len(b)], all
}

// spoil changes each byte of a list, and the room behind its end.
func spoil(b []byte) {
	b = b[:cap(b)]
	for i := range b {
		b[i] ^= 0x55
	}
}

// untouched holds a list and the room behind it against what they were.
func untouched(t *testing.T, what string, got, was []byte) {
	t.Helper()
	if !bytes.Equal(got, was) {
		t.Errorf("%s: % x, not % x", what, got, was)
	}
}

// R3: a Get neither changes nor keeps its bytes, and what it answers is memory of its own.
func TestGetKeepsNothing(t *testing.T) {
	for _, r := range readings() {
		for _, b := range r.right {
			list, all := roomy(b)
			was := bytes.Clone(all)
			got, err := r.get(list)
			again, _ := r.get(list)
			if err != api.OK || !reflect.DeepEqual(got, again) {
				t.Errorf("%s: %v, %d; then %v", r.name, got, err, again)
			}
			untouched(t, r.name+" changes what it is handed", all, was)
			spoil(all)
			if anew, _ := r.get(b); !reflect.DeepEqual(got, anew) {
				t.Errorf("%s keeps what it is handed", r.name)
			}
		}
	}
}

// R3: a Get of what is refused changes nothing either; nor does Kind, of whatever.
func TestRefusedIsUntouched(t *testing.T) {
	for _, r := range readings() {
		for _, b := range r.right {
			for _, n := range []int{len(b) - 1, len(b)} {
				list, all := roomy(changed(b, 0, 9)[:n])
				was := bytes.Clone(all)
				r.get(list)
				frame.Kind(list)
				untouched(t, r.name+" or Kind changes what it is handed", all, was)
			}
		}
	}
	for _, b := range framesBytes() {
		list, all := roomy(b)
		was := bytes.Clone(all)
		frame.Kind(list)
		untouched(t, "Kind changes what it is handed", all, was)
	}
}

// R3: what GetUp and GetDown answer may be changed, with the room behind it: neither the bytes nor another answer change.
func TestGotMayBeChanged(t *testing.T) {
	for _, w := range ways() {
		for _, n := range w.sizes {
			body := text(7, n)
			list, all := roomy(packetBytes(w.first, 1, 2, 3, body))
			was := bytes.Clone(all)
			one, _ := w.get(list)
			two, _ := w.get(list)
			spoil(one.body)
			untouched(t, "Get"+w.name+" answers what it was handed", all, was)
			untouched(t, "Get"+w.name+" answers one memory twice", two.body, body)
		}
	}
	for n := 1; n <= 3; n++ {
		list, all := roomy(announceBytes(3, keys(n)))
		was := bytes.Clone(all)
		one, _ := frame.GetAnnounce(list)
		two, _ := frame.GetAnnounce(list)
		one.Hops = one.Hops[:cap(one.Hops)]
		for i := range one.Hops {
			spoil(one.Hops[i][:])
		}
		untouched(t, "GetAnnounce answers what it was handed", all, was)
		if !slices.Equal(two.Hops, keys(n)) {
			t.Errorf("GetAnnounce answers one memory twice: %v", two.Hops)
		}
	}
}

// R3: PutUp and PutDown neither change nor keep a body, and what they answer is memory of its own.
func TestPutKeepsNoBody(t *testing.T) {
	for _, w := range ways() {
		for _, n := range append([]int{0, 195}, w.sizes...) {
			list, all := roomy(text(7, n))
			was := bytes.Clone(all)
			one, _ := w.put(packet{1, 2, 3, list})
			two, _ := w.put(packet{1, 2, 3, list})
			first := bytes.Clone(two)
			untouched(t, "Put"+w.name+" changes what it is handed", all, was)
			spoil(one)
			untouched(t, "Put"+w.name+" answers what it was handed", all, was)
			untouched(t, "Put"+w.name+" answers one memory twice", two, first)
			spoil(all)
			untouched(t, "Put"+w.name+" keeps what it is handed", two, first)
		}
	}
}

// R3: PutAnnounce neither changes nor keeps its hops, and what it answers is memory of its own.
func TestPutKeepsNoHops(t *testing.T) {
	for n := range 5 {
		all := keys(8)
		list := all[:n]
		one, _ := frame.PutAnnounce(api.Announce{Round: 3, Hops: list})
		two, _ := frame.PutAnnounce(api.Announce{Round: 3, Hops: list})
		first := bytes.Clone(two)
		if !slices.Equal(all, keys(8)) {
			t.Errorf("PutAnnounce changes what it is handed: %v", all)
		}
		spoil(one)
		if !slices.Equal(all, keys(8)) {
			t.Errorf("PutAnnounce answers what it was handed: %v", all)
		}
		untouched(t, "PutAnnounce answers one memory twice", two, first)
		for i := range all {
			spoil(all[i][:])
		}
		untouched(t, "PutAnnounce keeps what it is handed", two, first)
	}
}

// R3: records without lists, too, are put into new memory each time.
func TestPutIsNewMemory(t *testing.T) {
	for name, put := range map[string]func() []byte{
		"PutHeader":   func() []byte { return frame.PutHeader(api.Header{Key: key(1), Prev: 2, Number: 3}) },
		"PutMessage":  func() []byte { return frame.PutMessage(api.Message{Body: [65]byte(text(1, 65))}) },
		"PutExchange": func() []byte { return frame.PutExchange(api.Exchange{Drop: api.Drop(text(1, 16))}) },
		"PutEnvelope": func() []byte { b, _ := frame.PutEnvelope(api.Envelope{Kind: 1, Ack: 2, Seq: 3}); return b },
	} {
		one, two := put(), put()
		was := bytes.Clone(two)
		spoil(one)
		untouched(t, name+" answers one memory twice", two, was)
		untouched(t, name+" answers what it answered", put(), was)
	}
}
