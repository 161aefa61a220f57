package drop_test

import (
	"bytes"
	"math/rand"
	"slices"
	"testing"

	"hollowtree/drop"
)

// spoil changes what a list has, and the room behind its end.
func spoil(b []byte) {
	b = b[:cap(b)]
	for i := range b {
		b[i] ^= 0x55
	}
}

// roomy is a batch that lies in one piece of memory, with room behind each of it and behind the list's end.
func roomy(l [][]byte) (batch [][]byte, all []byte, list [][]byte) {
	for _, b := range l {
		all = append(append(all, b...), bytes.Repeat([]byte{0xee}, 200)...)
	}
	at := 0
	for _, b := range l {
		list = append(list, all[at:at+len(b)])
		at += len(b) + 200
	}
	list = append(list, []byte{0xdd}, []byte{0xcc})
	return list[:len(l)], all, list
}

// R3: what is handed in is not changed: neither the batch, nor one of it, nor the room behind an end.
func TestNothingIsChanged(t *testing.T) {
	r := rand.New(rand.NewSource(9))
	for range 40 {
		l, all, list := roomy(drawnBatch(r, r.Intn(30), 1+r.Intn(30)))
		was, lists := bytes.Clone(all), copyOf(list)
		replies := drop.Swap(l)
		drop.Partners(l)
		drop.Counts(l)
		for _, b := range replies {
			spoil(b)
		}
		spoilList(replies)
		if !bytes.Equal(all, was) || !same(list, lists) {
			t.Error("the batch is changed")
		}
	}
}

// spoilList changes which bytes a list has, also in the room behind its end.
func spoilList(l [][]byte) {
	l = l[:cap(l)]
	for i := range l {
		l[i] = []byte{0x77}
	}
}

// R3: what is handed in is not kept: what becomes of it afterwards changes neither what was answered, nor a later answer.
func TestNothingIsKept(t *testing.T) {
	r := rand.New(rand.NewSource(10))
	for range 40 {
		first := drawnBatch(r, r.Intn(30), 1+r.Intn(30))
		l, all, list := roomy(first)
		replies, partners, three := drop.Swap(l), drop.Partners(l), counts(l)
		spoil(all)
		spoilList(list)
		if !same(replies, swapOf(first)) || !slices.Equal(partners, partnersOf(first)) || three != countsOf(first) {
			t.Error("the batch is kept")
		}
		holds(t, first)
	}
}

// P20.1, R3: each reply is memory of its own, the room behind its end too: the empty ones, and those of two with the same Body.
func TestRepliesOfTheirOwn(t *testing.T) {
	same := in(1, 1)
	for _, l := range [][][]byte{
		batchIn(1, 1, 2, 2, 3, 3),
		batchIn(1, 2, 3, 4),
		batchIn(1, 1, 1, 1),
		batchIn(-1, -146, -148, -201),
		{same, same},
		{same, bytes.Clone(same), x(2, 0), x(2, 0), x(3, 0), nil, {}},
		{x(1, 0), x(1, 9), x(2, 0), x(2, 0)},
	} {
		want := swapOf(l)
		for spoilt := range l {
			replies := drop.Swap(l)
			spoil(replies[spoilt])
			for i, b := range replies {
				if i != spoilt && !bytes.Equal(b, want[i]) {
					t.Errorf("of %d the reply %d goes with the reply %d", len(l), i, spoilt)
				}
			}
		}
		holds(t, l)
	}
}

// R3: what is answered once is nobody else's answer later.
func TestAnswersOfTheirOwn(t *testing.T) {
	l := batchIn(1, 2, 1, 3, -1)
	one, other := drop.Swap(l), drop.Swap(l)
	for _, b := range one {
		spoil(b)
	}
	spoilList(one)
	if !same(other, swapOf(l)) {
		t.Error("replies are answered twice")
	}
	first, second := drop.Partners(l), drop.Partners(l)
	for i := range first[:cap(first)] {
		first[:cap(first)][i] = 99
	}
	if !slices.Equal(second, partnersOf(l)) {
		t.Error("partners are answered twice")
	}
	holds(t, l)
	swaps(t, batchIn(1), [][]byte{noughts()})
}
