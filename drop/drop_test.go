package drop_test

import (
	"bytes"
	"encoding/binary"
	"math/rand"
	"slices"
	"testing"

	"hollowtree/drop"
)

// nowhere says of a reply, of a place, that there is no partner.
const nowhere = -1

// x is the exchange of a hollow of 16 bytes, with a body of 130 bytes.
func x(d, b byte) []byte {
	return append(bytes.Repeat([]byte{d}, 16), bytes.Repeat([]byte{b}, 130)...)
}

// filled is a reply of one byte.
func filled(b byte) []byte { return bytes.Repeat([]byte{b}, 130) }

// noughts is the empty reply.
func noughts() []byte { return filled(0) }

// hollowNo is one of many hollows, all unlike.
func hollowNo(n int) []byte {
	d := bytes.Repeat([]byte{0xa5}, 16)
	binary.BigEndian.PutUint64(d[4:], uint64(n))
	return d
}

// bodyNo is one of many bodies, all unlike, whose bytes are unlike their neighbours.
func bodyNo(n int) []byte {
	b := make([]byte, 130)
	for i := range b {
		b[i] = byte(7*i + 3)
	}
	binary.LittleEndian.PutUint64(b[61:], uint64(n)+1)
	return b
}

// laid are the bytes of a hollow and of a body, one behind the other.
func laid(d, body []byte) []byte { return slices.Concat(d, body) }

// in is an exchange of a hollow with a body, both told by numbers.
func in(hollow, body int) []byte { return laid(hollowNo(hollow), bodyNo(body)) }

// batchIn is a batch with bodies of its own, the hollows told by numbers; where there is a number below 0, lie so many bytes less one, which begin like an exchange of the hollow 0.
func batchIn(hollows ...int) [][]byte {
	var l [][]byte
	for i, h := range hollows {
		if h < 0 {
			l = append(l, append(in(0, i), bodyNo(i)...)[:-h-1])
			continue
		}
		l = append(l, in(h, i))
	}
	return l
}

// drawnBatch has exchanges of so many hollows, others among them, and now and then one twice.
func drawnBatch(r *rand.Rand, n, hollows int) [][]byte {
	l := [][]byte{}
	for range n {
		b := in(r.Intn(hollows), r.Intn(1000))
		switch r.Intn(12) {
		case 0:
			b = b[:r.Intn(146)]
		case 1:
			b = append(b, bodyNo(0)[:1+r.Intn(130)]...)
		case 2:
			if len(l) > 0 {
				b = bytes.Clone(l[r.Intn(len(l))])
			}
		}
		l = append(l, b)
	}
	return l
}

// copyOf shares nothing with l.
func copyOf(l [][]byte) [][]byte {
	var out [][]byte
	for _, b := range l {
		out = append(out, bytes.Clone(b))
	}
	return out
}

// same holds lists of bytes against each other.
func same(a, b [][]byte) bool { return slices.EqualFunc(a, b, bytes.Equal) }

// counts are Counts' three numbers.
func counts(l [][]byte) [3]int {
	alone, twos, more := drop.Counts(l)
	return [3]int{alone, twos, more}
}

// swaps looks for the replies, byte for byte.
func swaps(t *testing.T, l, want [][]byte) {
	t.Helper()
	got := drop.Swap(l)
	if len(got) != len(want) {
		t.Fatalf("Swap of %d: %d replies, not %d", len(l), len(got), len(want))
	}
	for i := range want {
		if !bytes.Equal(got[i], want[i]) {
			t.Errorf("Swap of %d: the reply %d is %x, not %x", len(l), i, got[i], want[i])
		}
	}
}

// pairs looks for the partners, and for the replies that follow of them.
func pairs(t *testing.T, l [][]byte, want ...int) {
	t.Helper()
	if got := drop.Partners(l); !slices.Equal(got, want) {
		t.Errorf("Partners of %d: %v, not %v", len(l), got, want)
	}
	var replies [][]byte
	for _, p := range want {
		if p == nowhere {
			replies = append(replies, noughts())
		} else {
			replies = append(replies, l[p][16:])
		}
	}
	swaps(t, l, replies)
}

// numbers looks for Counts' three.
func numbers(t *testing.T, l [][]byte, alone, twos, more int) {
	t.Helper()
	if got := counts(l); got != [3]int{alone, twos, more} {
		t.Errorf("Counts of %d: %v, not %d %d %d", len(l), got, alone, twos, more)
	}
}

// P20.1, P20.2: the chapter's examples, row by row.
func TestExamples(t *testing.T) {
	one := [][]byte{x(1, 5), x(2, 6), x(1, 7)}
	swaps(t, one, [][]byte{filled(7), noughts(), filled(5)})
	pairs(t, one, 2, nowhere, 0)
	numbers(t, one, 1, 1, 0)

	three := [][]byte{x(1, 5), x(1, 6), x(1, 7)}
	swaps(t, three, [][]byte{noughts(), noughts(), noughts()})
	pairs(t, three, nowhere, nowhere, nowhere)
	numbers(t, three, 0, 0, 1)

	others := [][]byte{{}, make([]byte, 145), x(1, 5)}
	swaps(t, others, [][]byte{noughts(), noughts(), noughts()})
	pairs(t, others, nowhere, nowhere, nowhere)
	numbers(t, others, 1, 0, 0)

	for _, nothing := range [][][]byte{nil, {}, make([][]byte, 0, 9)} {
		swaps(t, nothing, nil)
		pairs(t, nothing)
		numbers(t, nothing, 0, 0, 0)
	}
}

// R5: what is asked twice is answered twice the same, whatever was asked between.
func TestTwice(t *testing.T) {
	r := rand.New(rand.NewSource(1))
	for range 20 {
		l := drawnBatch(r, 60, 25)
		replies, partners, three := drop.Swap(l), drop.Partners(l), counts(l)
		drop.Swap(drawnBatch(r, 9, 3))
		for range 5 {
			if !same(drop.Swap(l), replies) || !slices.Equal(drop.Partners(l), partners) || counts(l) != three {
				t.Fatal("another answer")
			}
		}
	}
}
