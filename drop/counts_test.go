package drop_test

import (
	"slices"
	"testing"
)

// crowd is a batch with so many hollows in which one lies, two do, and so on.
func crowd(hollows ...int) [][]byte {
	var at []int
	next := 1
	for i, n := range hollows {
		for range n {
			at = append(at, slices.Repeat([]int{next}, i+1)...)
			next++
		}
	}
	return batchIn(at...)
}

// P20.2: each of the three numbers for itself: it counts hollows, not those who lie there.
func TestEachNumber(t *testing.T) {
	for n := range 6 {
		numbers(t, crowd(n), n, 0, 0)
		numbers(t, crowd(0, n), 0, n, 0)
		numbers(t, crowd(0, 0, n), 0, 0, n)
		numbers(t, crowd(0, 0, 0, n), 0, 0, n)
		numbers(t, crowd(0, 0, 0, 0, n), 0, 0, n)
		numbers(t, crowd(0, 0, 0, 0, 0, n), 0, 0, n)
	}
}

// P20.2: the three together, one behind the other, and the other way about.
func TestNumbersTogether(t *testing.T) {
	for alone := range 4 {
		for twos := range 4 {
			for threes := range 3 {
				for fours := range 3 {
					l := crowd(alone, twos, threes, fours)
					numbers(t, l, alone, twos, threes+fours)
					slices.Reverse(l)
					numbers(t, l, alone, twos, threes+fours)
				}
			}
		}
	}
}

// P20.2: what lies in no hollow is counted nowhere.
func TestNotCounted(t *testing.T) {
	l := crowd(2, 3, 4)
	for n := range 146 {
		l = append(l, in(1, n)[:n], append(in(2, n), in(3, n)[:n+1]...))
	}
	numbers(t, l, 2, 3, 4)
	slices.Reverse(l)
	numbers(t, l, 2, 3, 4)
}
