package drop_test

import (
	"bytes"
	"slices"
	"testing"
)

// P20.2: who lies in one hollow, at the front, at the end and apart: two are partners, one, three, four and five are not.
func TestHowMany(t *testing.T) {
	for _, y := range []struct {
		hollows, partners []int
		counts            [3]int
	}{
		{[]int{1}, []int{-1}, [3]int{1, 0, 0}},
		{[]int{1, 1}, []int{1, 0}, [3]int{0, 1, 0}},
		{[]int{1, 1, 1}, []int{-1, -1, -1}, [3]int{0, 0, 1}},
		{[]int{1, 1, 1, 1}, []int{-1, -1, -1, -1}, [3]int{0, 0, 1}},
		{[]int{1, 1, 1, 1, 1}, []int{-1, -1, -1, -1, -1}, [3]int{0, 0, 1}},

		{[]int{1, 2}, []int{-1, -1}, [3]int{2, 0, 0}},
		{[]int{1, 1, 2, 3}, []int{1, 0, -1, -1}, [3]int{2, 1, 0}},
		{[]int{2, 3, 1, 1}, []int{-1, -1, 3, 2}, [3]int{2, 1, 0}},
		{[]int{1, 2, 3, 1}, []int{3, -1, -1, 0}, [3]int{2, 1, 0}},
		{[]int{2, 1, 1, 3}, []int{-1, 2, 1, -1}, [3]int{2, 1, 0}},

		{[]int{1, 1, 1, 2, 3}, []int{-1, -1, -1, -1, -1}, [3]int{2, 0, 1}},
		{[]int{2, 3, 1, 1, 1}, []int{-1, -1, -1, -1, -1}, [3]int{2, 0, 1}},
		{[]int{1, 2, 1, 2, 1}, []int{-1, 3, -1, 1, -1}, [3]int{0, 1, 1}},
		{[]int{1, 2, 1, 1, 2, 1}, []int{-1, 4, -1, -1, 1, -1}, [3]int{0, 1, 1}},
		{[]int{1, 1, 2, 1, 2, 1, 1}, []int{-1, -1, 4, -1, 2, -1, -1}, [3]int{0, 1, 1}},
		{[]int{2, 1, 1, 1, 1, 2}, []int{5, -1, -1, -1, -1, 0}, [3]int{0, 1, 1}},

		{[]int{1, 1, 2, 2, 3, 3}, []int{1, 0, 3, 2, 5, 4}, [3]int{0, 3, 0}},
		{[]int{1, 2, 3, 1, 2, 3}, []int{3, 4, 5, 0, 1, 2}, [3]int{0, 3, 0}},
		{[]int{1, 2, 3, 3, 2, 1}, []int{5, 4, 3, 2, 1, 0}, [3]int{0, 3, 0}},
		{[]int{1, 1, 1, 2, 2, 2, 3, 3, 3}, slices.Repeat([]int{-1}, 9), [3]int{0, 0, 3}},
		{[]int{5, 4, 4, 3, 3, 3, 2, 2, 2, 2}, []int{-1, 2, 1, -1, -1, -1, -1, -1, -1, -1}, [3]int{1, 1, 2}},
	} {
		l := batchIn(y.hollows...)
		pairs(t, l, y.partners...)
		numbers(t, l, y.counts[0], y.counts[1], y.counts[2])
	}
}

// P20.2: what has not just 146 bytes lies in no hollow: alone, among others, and where it begins like another one.
func TestOtherSizes(t *testing.T) {
	long := append(in(1, 1), bytes.Repeat([]byte{9}, 200)...)
	for n := range 340 {
		if n == 146 {
			continue
		}
		b := long[:n]
		pairs(t, [][]byte{b}, nowhere)
		numbers(t, [][]byte{b}, 0, 0, 0)
		for _, l := range [][][]byte{{b, in(1, 2)}, {in(1, 2), b}} {
			pairs(t, l, nowhere, nowhere)
			numbers(t, l, 1, 0, 0)
		}
		pairs(t, [][]byte{b, b}, nowhere, nowhere)
		numbers(t, [][]byte{b, b}, 0, 0, 0)
		l := [][]byte{b, in(1, 2), b, in(2, 3), in(1, 4), b}
		pairs(t, l, nowhere, 4, nowhere, nowhere, 1, nowhere)
		numbers(t, l, 1, 1, 0)
	}
	pairs(t, [][]byte{nil, {}, nil}, nowhere, nowhere, nowhere)
	numbers(t, [][]byte{nil, {}, nil}, 0, 0, 0)
}

// P20.2: two of 145 or of 147 bytes whose first 16 are alike are nobody's partners; cut, or filled up, to 146 they were.
func TestNearSizes(t *testing.T) {
	one, other := append(in(1, 1), 7), append(in(1, 2), 7)
	for _, n := range []int{145, 147} {
		for _, m := range []int{145, 146, 147} {
			l := [][]byte{one[:n], other[:m]}
			pairs(t, l, nowhere, nowhere)
			pairs(t, [][]byte{other[:m], one[:n]}, nowhere, nowhere)
			numbers(t, l, m%2^1, 0, 0)
		}
	}
	pairs(t, [][]byte{one[:146], other[:146]}, 1, 0)
	numbers(t, [][]byte{one[:146], other[:146]}, 0, 1, 0)

	l := [][]byte{one[:145], other[:145], one[:147], other[:147], one[:146], other[:146]}
	pairs(t, l, nowhere, nowhere, nowhere, nowhere, 5, 4)
	numbers(t, l, 0, 1, 0)
}

// P20.2: hollows that differ in one bit, of whichever byte, are two; a bit of the body says nothing.
func TestOneBit(t *testing.T) {
	for bit := range 146 * 8 {
		one, other := in(1, 1), in(1, 1)
		other[bit/8] ^= 1 << (bit % 8)
		l := [][]byte{one, other}
		if bit < 128 {
			pairs(t, l, nowhere, nowhere)
			numbers(t, l, 2, 0, 0)
			pairs(t, append(l, one, other), 2, 3, 0, 1)
			numbers(t, append(l, one, other), 0, 2, 0)
		} else {
			pairs(t, l, 1, 0)
			numbers(t, l, 0, 1, 0)
		}
	}
}

// P20.2: a hollow's bytes say something in their order alone; those of noughts and of ffs are hollows like all others.
func TestHollows(t *testing.T) {
	low, high := make([]byte, 16), bytes.Repeat([]byte{0xff}, 16)
	first, last := make([]byte, 16), make([]byte, 16)
	first[0], last[15] = 1, 1
	var l [][]byte
	for i, d := range [][]byte{low, high, first, last, low, high, first, last} {
		l = append(l, laid(d, bodyNo(i)))
	}
	pairs(t, l, 4, 5, 6, 7, 0, 1, 2, 3)
	pairs(t, l[:4], nowhere, nowhere, nowhere, nowhere)
	numbers(t, l, 0, 4, 0)
	numbers(t, l[:4], 4, 0, 0)
}

// P20.2: two that are the same bytes, even one memory, are two all the same; and so three are three.
func TestSameBytes(t *testing.T) {
	b := in(1, 1)
	for _, other := range [][]byte{b, bytes.Clone(b)} {
		l := [][]byte{b, other}
		pairs(t, l, 1, 0)
		numbers(t, l, 0, 1, 0)
		swaps(t, l, [][]byte{bodyNo(1), bodyNo(1)})
		l = append(l, in(2, 2), other)
		pairs(t, l, nowhere, nowhere, nowhere, nowhere)
		numbers(t, l, 1, 0, 1)
	}
}
