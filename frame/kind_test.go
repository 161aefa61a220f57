package frame_test

import (
	"bytes"
	"fmt"
	"testing"

	"hollowtree/api"
	"hollowtree/frame"
)

func isKind(t *testing.T, what string, b []byte, want int) {
	t.Helper()
	if got := frame.Kind(b); got != want {
		t.Errorf("Kind of %s: %d, not %d", what, got, want)
	}
}

// framesBytes are those of frames of each kind and count of hops; the first byte of each is its kind.
func framesBytes() [][]byte {
	var list [][]byte
	for _, r := range readings()[4:] {
		list = append(list, r.right...)
	}
	return list
}

// P14.5: each kind of frame, as it was put, and by the chapter's numbers.
func TestKind(t *testing.T) {
	for _, b := range framesBytes() {
		isKind(t, fmt.Sprint("a frame of ", len(b)), b, int(b[0]))
	}
	a, _ := frame.PutAnnounce(api.Announce{Round: 1, Hops: keys(2)})
	isKind(t, "an Announce", a, api.FrameAnnounce)
	u, _ := frame.PutUp(api.Up{Round: 1, Onion: text(1, 242)})
	isKind(t, "an Up", u, api.FrameUp)
	d, _ := frame.PutDown(api.Down{Round: 1, Reply: text(1, 162)})
	isKind(t, "a Down", d, api.FrameDown)
}

// P14.5: bytes that are no frame's.
func TestKindOfNone(t *testing.T) {
	isKind(t, "nil", nil, 0)
	isKind(t, "no bytes", []byte{}, 0)
	isKind(t, "very many bytes", append([]byte{2}, noughts(1<<20)...), 0)
	for n := range 700 {
		for c := range 5 {
			isKind(t, fmt.Sprint(n, " bytes ", c), times(n, byte(c)), kindOf(times(n, byte(c))))
		}
		isKind(t, fmt.Sprint(n, " noughts"), noughts(n), 0)
		isKind(t, fmt.Sprint(n, " bytes ff"), times(n, 0xff), 0)
	}
	for _, r := range readings()[:4] {
		for _, b := range r.right {
			isKind(t, "what "+r.name+" reads", b, 0)
			isKind(t, "what "+r.name+" reads, with the first byte 1", changed(b, 0, 1), 0)
		}
	}
}

// P14.5: frames with a byte less, a byte more, another first byte, or a field that may not be.
func TestKindOfSpoilt(t *testing.T) {
	for _, b := range framesBytes() {
		isKind(t, "a byte less behind", b[:len(b)-1], 0)
		isKind(t, "a byte less ahead", b[1:], 0)
		isKind(t, "a byte more behind", append(bytes.Clone(b), 0), 0)
		isKind(t, "a byte more ahead", append([]byte{b[0]}, b...), 0)
		isKind(t, "a frame twice", append(bytes.Clone(b), b...), 0)
		for c := range 256 {
			if byte(c) != b[0] {
				isKind(t, fmt.Sprint("a frame of ", b[0], " with the first byte ", c), changed(b, 0, byte(c)), 0)
			}
		}
	}
	isKind(t, "the round 0", announceBytes(0, keys(1)), 0)
	isKind(t, "no hops", announceBytes(1, nil), 0)
	isKind(t, "a byte behind the last key", changed(announceBytes(1, keys(1)), 105, 1), 0)
	for _, w := range ways() {
		for _, n := range w.sizes {
			isKind(t, w.name+" of client 4", packetBytes(w.first, 4, 0, 1, text(1, n)), 0)
			isKind(t, w.name+" of slot 3", packetBytes(w.first, 0, 3, 1, text(1, n)), 0)
			isKind(t, w.name+" of round 0", packetBytes(w.first, 0, 0, 0, text(1, n)), 0)
		}
	}
}
