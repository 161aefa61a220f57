package wal

import (
	"bytes"
	"math"
	"slices"
	"testing"

	"hollowtree/api"
)

// laid are the sectors of transactions of turn 7, one behind the other, and then noughts, 12 in all.
func laid(sizes ...int) []api.Block {
	var out []api.Block
	for number, size := range sizes {
		tx := bytes.Repeat([]byte{byte(number + 1)}, size)
		out = append(out, describe(7, number, tx).block())
		for part := range slices.Chunk(tx, share) {
			out = append(out, sector(part))
		}
	}
	return append(out, make([]api.Block, 12-len(out))...)
}

// reads holds which sectors find reads, in their order, and how many transactions it finds against what it should.
func reads(t *testing.T, what string, blocks []api.Block, count int, want ...int) {
	t.Helper()
	var got []int
	txs, err := find(7, len(blocks), func(i int) (api.Block, api.Errno) {
		got = append(got, i)
		return blocks[i], api.OK
	})
	if !slices.Equal(got, want) || len(txs) != count || err != api.OK {
		t.Errorf("%s: %d transactions, %d, read %v, not %d, read %v", what, len(txs), err, got, count, want)
	}
}

// P12.1: no sector of the log is read that need not be: none behind one that tells that there are no more transactions.
func TestReads(t *testing.T) {
	reads(t, "no sectors", nil, 0)
	reads(t, "noughts", laid(), 0, 0)
	reads(t, "of no bytes", laid(0), 1, 0, 1)
	reads(t, "of three sectors", laid(70), 1, 0, 1, 2, 3)
	reads(t, "three", laid(70, 0, 63), 3, 0, 1, 2, 3, 4, 5, 6)
	reads(t, "all of the log", laid(63*11), 1, 0, 1, 2, 3, 4, 5, 6, 7, 8, 9, 10, 11)
	reads(t, "as many as there are sectors", laid(make([]int, 12)...), 12, 0, 1, 2, 3, 4, 5, 6, 7, 8, 9, 10, 11)
	reads(t, "up to the end", laid(70, 63*8), 2, 0, 1, 2, 3, 4, 5, 6, 7, 8, 9, 10, 11)

	for at := range api.Sector {
		b := laid(70, 200, 10)
		b[3][at] ^= 1
		reads(t, "a mark's byte", b, 1, 0, 1, 2, 3)
	}
	for at := range 3 {
		b := laid(70, 180, 10)
		b[4+at][0] = 1
		reads(t, "a byte ahead", b, 1, []int{0, 1, 2, 3, 4, 5, 6}[:5+at]...)
		b[4+at] = describe(7, 1, nil).block()
		reads(t, "a mark within", b, 1, []int{0, 1, 2, 3, 4, 5, 6}[:5+at]...)
		b = laid(70, 180, 10)
		b[4+at][9] ^= 1
		reads(t, "another hash", b, 1, 0, 1, 2, 3, 4, 5, 6)
	}
	b := laid(70, 180, 10)
	b[6][63] = 1
	reads(t, "no nought at the end", b, 1, 0, 1, 2, 3, 4, 5, 6)
}

// P12.1: behind a mark that is not the next one's, or whose sectors are not all in the log, none of its sectors is read.
func TestReadsBehindMarks(t *testing.T) {
	tx := bytes.Repeat([]byte{2}, 180)
	for _, m := range []mark{
		describe(6, 1, tx), describe(8, 1, tx), describe(7+1<<32, 1, tx), describe(7, 0, tx), describe(7, 2, tx), describe(7, 1+1<<16, tx),
		{7, 1, 63*8 + 1, digest(tx)}, {7, 1, 63 * 9, digest(tx)}, {7, 1, 63*12 + 1, digest(tx)}, {7, 1, math.MaxInt32, digest(tx)}, {7, 1, 1 << 31, digest(tx)}, {7, 1, math.MaxUint32, digest(tx)},
	} {
		b := laid(70, 180, 10)
		b[3] = m.block()
		reads(t, "another mark", b, 1, 0, 1, 2, 3)
	}
	b := laid(70, 180, 10)
	b[3] = mark{7, 1, 63 * 8, digest(tx)}.block()
	reads(t, "a count to the log's end, with a mark within", b, 1, 0, 1, 2, 3, 4, 5, 6, 7)
	b[7] = api.Block{}
	reads(t, "a count to the log's end", b, 1, 0, 1, 2, 3, 4, 5, 6, 7, 8, 9, 10, 11)
}

// P12.1, R2: the first error of reading is answered, with nothing beside it, and nothing is read behind it.
func TestReadErrors(t *testing.T) {
	b := laid(70, 0, 180, 10)
	for bad := range 12 {
		for _, want := range []api.Errno{api.ErrDead, api.ErrArg, api.ErrFormat} {
			var got []int
			txs, err := find(7, len(b), func(i int) (api.Block, api.Errno) {
				got = append(got, i)
				if i == bad {
					return b[i], want
				}
				if i > bad {
					return api.Block{}, api.ErrNone
				}
				return b[i], api.OK
			})
			if bad > 10 { // the last one that has to be read
				want = api.OK
			}
			if err != want || want != api.OK && txs != nil || len(got) != min(bad, 10)+1 {
				t.Errorf("an error at %d: %x %d, read %v", bad, txs, err, got)
			}
		}
	}
}
