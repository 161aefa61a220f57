package drop_test

import (
	"bytes"
	"testing"

	"hollowtree/api"
	"hollowtree/drop"
	"hollowtree/frame"
)

// P20.1: one that has a partner gets its Body, byte for byte, whatever it is: of noughts too, and of what is like a hollow.
func TestBodies(t *testing.T) {
	hollow := hollowNo(1)
	bodies := [][]byte{bodyNo(1), bodyNo(2), noughts(), filled(0xff), filled(0xa5), bytes.Repeat(hollow, 9)[:130]}
	for at := range 130 {
		for _, bit := range []byte{1, 0x80} {
			b := noughts()
			b[at] = bit
			bodies = append(bodies, b)
		}
	}
	for _, one := range bodies {
		for _, other := range [][]byte{bodies[0], bodies[2], one} {
			swaps(t, [][]byte{laid(hollow, one), laid(hollow, other)}, [][]byte{other, one})
			swaps(t, [][]byte{laid(hollow, one), in(2, 9), laid(hollow, other)}, [][]byte{other, noughts(), one})
		}
	}
}

// P20.1: what frame puts is what lies in a hollow, and the reply is the exchange's Body.
func TestExchanges(t *testing.T) {
	one := api.Exchange{Drop: [16]byte{1, 2, 3}, Body: [130]byte(bodyNo(1))}
	other := api.Exchange{Drop: [16]byte{1, 2, 3}, Body: [130]byte(bodyNo(2))}
	third := api.Exchange{Drop: [16]byte{1, 2, 4}, Body: [130]byte(bodyNo(3))}
	l := [][]byte{frame.PutExchange(third), frame.PutExchange(one), frame.PutExchange(other)}
	swaps(t, l, [][]byte{noughts(), other.Body[:], one.Body[:]})
}

// P20.1: as many replies as the batch has, in its order.
func TestOrderOfReplies(t *testing.T) {
	l := batchIn(4, 3, 2, 1, 0, 0, 1, 2, 3, 4)
	var want [][]byte
	for i := range l {
		want = append(want, bodyNo(9-i))
	}
	swaps(t, l, want)
	for n := range l {
		if got := len(drop.Swap(l[:n])); got != n {
			t.Errorf("%d replies to %d", got, n)
		}
	}
}

// P20.1: a batch of one gets the empty reply, whatever it is.
func TestSwapOfOne(t *testing.T) {
	for n := range 300 {
		swaps(t, [][]byte{append(in(1, 1), bytes.Repeat([]byte{9}, 200)...)[:n]}, [][]byte{noughts()})
	}
	swaps(t, [][]byte{nil}, [][]byte{noughts()})
	swaps(t, [][]byte{make([]byte, 146)}, [][]byte{noughts()})
	swaps(t, [][]byte{bytes.Repeat([]byte{0xff}, 146)}, [][]byte{noughts()})
}

// P20.1: of those that are more than two in one hollow each gets the empty reply, not a Body of those that met elsewhere.
func TestSwapBesideMore(t *testing.T) {
	l := batchIn(1, 2, 1, 2, 1)
	swaps(t, l, [][]byte{noughts(), bodyNo(3), noughts(), bodyNo(1), noughts()})
	l = batchIn(1, 1, 1, 1)
	swaps(t, l, [][]byte{noughts(), noughts(), noughts(), noughts()})
}
