package drop_test

import (
	"bytes"
	"math/rand"
	"slices"
	"testing"

	"hollowtree/drop"
)

// The chapter's words, told once more in the tests' own way: each of a batch is held against each other one.

// together: those at both places lie in one hollow.
func together(l [][]byte, i, j int) bool {
	return len(l[i]) == 146 && len(l[j]) == 146 && string(l[i][:16]) == string(l[j][:16])
}

// mates are the places of all who lie where the one at place i does; its own is among them, if it lies anywhere.
func mates(l [][]byte, i int) []int {
	var out []int
	for j := range l {
		if together(l, i, j) {
			out = append(out, j)
		}
	}
	return out
}

func partnersOf(l [][]byte) []int {
	var out []int
	for i := range l {
		partner := nowhere
		if m := mates(l, i); len(m) == 2 {
			partner = m[0] + m[1] - i
		}
		out = append(out, partner)
	}
	return out
}

func swapOf(l [][]byte) [][]byte {
	var out [][]byte
	for i := range l {
		reply := make([]byte, 130)
		for j := range l {
			if i != j && together(l, i, j) && len(mates(l, i)) == 2 {
				reply = bytes.Clone(l[j][16:146])
			}
		}
		out = append(out, reply)
	}
	return out
}

// countsOf counts a hollow where the first of those lies who are in it.
func countsOf(l [][]byte) [3]int {
	var out [3]int
	for i := range l {
		if m := mates(l, i); len(m) > 0 && m[0] == i {
			out[min(len(m), 3)-1]++
		}
	}
	return out
}

// holds looks for just what the words say of a batch.
func holds(t *testing.T, l [][]byte) {
	t.Helper()
	swaps(t, l, swapOf(l))
	pairs(t, l, partnersOf(l)...)
	if got, want := counts(l), countsOf(l); got != want {
		t.Errorf("Counts of %d: %v, not %v", len(l), got, want)
	}
}

// P20.1, P20.2: drawn batches of all kinds, few in many hollows and many in few.
func TestDrawn(t *testing.T) {
	r := rand.New(rand.NewSource(2))
	for range 400 {
		holds(t, drawnBatch(r, r.Intn(40), 1+r.Intn(40)))
	}
	for hollows := 1; hollows < 100; hollows += 7 {
		holds(t, drawnBatch(r, 120, hollows))
	}
}

// P20.1, P20.2: all batches of up to six, each in one of three hollows or in none.
func TestAllSmall(t *testing.T) {
	for n := range 7 {
		hollows := make([]int, n)
		for range power(4, n) {
			holds(t, batchIn(hollows...))
			for i := range hollows {
				if hollows[i] == 2 {
					hollows[i] = -1 - 145 - 2*(i%2)
				} else if hollows[i] < 0 {
					hollows[i] = 0
					continue
				} else {
					hollows[i]++
				}
				break
			}
		}
	}
}

// power is b, n times by itself.
func power(b, n int) int {
	p := 1
	for range n {
		p *= b
	}
	return p
}

// P20.1, P20.2: many hollows at once, more than a byte's or two bytes' places, the twos far apart.
func TestManyHollows(t *testing.T) {
	const n = 70000
	var l [][]byte
	var want []int
	for i := range n {
		l = append(l, in(i, i))
		want = append(want, i+n)
	}
	for i := range n {
		l = append(l, in(i, n+i))
		want = append(want, i)
	}
	if got := drop.Partners(l); !slices.Equal(got, want) {
		t.Error("other partners")
	}
	for i, reply := range drop.Swap(l) {
		if !bytes.Equal(reply, bodyNo(want[i])) {
			t.Fatalf("the reply %d is %x", i, reply)
		}
	}
	numbers(t, l, 0, n, 0)
	numbers(t, l[:n], n, 0, 0)
	numbers(t, append(l, l[:n]...), 0, 0, n)
	numbers(t, append(l, l[:5]...), 0, n-5, 5)
	numbers(t, l[:n+7], n-7, 7, 0)
}

// P20.1, P20.2: thousands in one hollow are no twos.
func TestOneFullHollow(t *testing.T) {
	for _, n := range []int{255, 256, 257, 258, 65535, 65536, 65537, 65538} {
		var l [][]byte
		for i := range n {
			l = append(l, in(1, i))
		}
		numbers(t, l, 0, 0, 1)
		if i := slices.IndexFunc(drop.Partners(l), func(p int) bool { return p != nowhere }); i >= 0 {
			t.Errorf("of %d the one at %d has a partner", n, i)
		}
	}
}
