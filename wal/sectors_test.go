package wal_test

import (
	"bytes"
	"crypto/sha256"
	"encoding/binary"
	"encoding/hex"
	"math"
	"slices"
	"testing"

	"hollowtree/api"
	"hollowtree/extent"
)

func bytesOf(t *testing.T, digits string) (b api.Block) {
	t.Helper()
	list, err := hex.DecodeString(digits)
	if err != nil || len(list) != api.Sector {
		t.Fatalf("%s: %v", digits, err)
	}
	copy(b[:], list)
	return b
}

func slot(t *testing.T, s *extent.Store, i int, want api.Block) {
	t.Helper()
	if got, err := s.Slot(i); got != want || err != api.OK {
		t.Errorf("Slot(%d): %x %d, not %x", i, got, err, want)
	}
}

// turned is a Store of some turn, with a snapshot of no bytes, on a disk of 64 sectors.
func turned(t *testing.T, turn uint64) *extent.Store {
	t.Helper()
	none := sha256.Sum256(nil)
	b := append([]byte("hollowtree"), byte(turn%2), 0)
	b = binary.LittleEndian.AppendUint64(b, turn)
	b = append(b, 0, 0, 0, 0)
	super := sealed(append(b, none[:16]...))
	d := made(t, 64)
	answers(t, "Write", d.Write(int(turn%2), super), api.OK)
	answers(t, "Sync", d.Sync(), api.OK)
	return storeOf(t, d)
}

// P12.3: sectors that another program put together (Python's hashlib and struct), byte for byte, and where they stand.
func TestMarks(t *testing.T) {
	s := stored(t, 64)
	l := opened(t, s)
	appends(t, l, nil, bytes.Repeat([]byte{'x'}, 64))
	slot(t, s, 0, bytesOf(t, "0100000000000000000000000000000000e3b0c44298fc1c149afbf4c8996fb924000000000000000000000000000000cd7c78ab645bc75e7339d481cbe94630"))
	slot(t, s, 1, bytesOf(t, "01000000000000000001000000400000007ce100971f64e7001e8fe5a51973ecdf0000000000000000000000000000009c82097e446cb1ac6312930445cb5700"))
	slot(t, s, 2, api.Block([]byte("\x00xxxxxxxxxxxxxxxxxxxxxxxxxxxxxxxxxxxxxxxxxxxxxxxxxxxxxxxxxxxxxxx")))
	slot(t, s, 3, api.Block{0, 'x'})
	slot(t, s, 4, api.Block{})
	checkpoint(t, l, nil)
	appends(t, l, []byte("ab"))
	slot(t, s, 0, bytesOf(t, "0101000000000000000000000002000000fb8e20fc2e4c3f248c60c39bd652f3c1000000000000000000000000000000c35a1ec725e4b66173ef5ca9af065b90"))
	slot(t, s, 1, api.Block{0, 'a', 'b'})
	slot(t, s, 2, api.Block([]byte("\x00xxxxxxxxxxxxxxxxxxxxxxxxxxxxxxxxxxxxxxxxxxxxxxxxxxxxxxxxxxxxxxx")))
}

// P12.1, P12.3: turns of which each byte is another one, and the greatest one, behind which there is no Checkpoint (11's ErrLong): the Log goes on.
func TestGreatTurns(t *testing.T) {
	sevens := make([]byte, 300)
	for i := range sevens {
		sevens[i] = byte(i * 7)
	}
	s := turned(t, 0x0102030405060709)
	l := opened(t, s)
	appends(t, l, sevens)
	slot(t, s, 0, bytesOf(t, "010907060504030201000000002c0100009a76b8af8f16f19d60de2b3999c22f9d00000000000000000000000000000048af676aed74c0b1a70ce2793ea87f3a"))
	tells(t, opened(t, s), nil, sevens)
	checkpoint(t, l, []byte{1})
	appends(t, l, []byte{2})
	slot(t, s, 0, mark(0x010203040506070a, 0, []byte{2}))

	s = turned(t, math.MaxUint64)
	l = opened(t, s)
	noughts := make([]byte, 126)
	appends(t, l, noughts)
	slot(t, s, 0, bytesOf(t, "01ffffffffffffffff000000007e000000ebc47d1683f1e8b6d506bf43f07f93e6000000000000000000000000000000abb7af743e46680522c4dfe711ca1a24"))
	answers(t, "Checkpoint behind the last turn", l.Checkpoint([]byte{1}), api.ErrLong)
	tells(t, l, nil, noughts)
	appends(t, l, text(1, 20))
	found(t, s.Disk(), nil, noughts, text(1, 20))
}

// P12.3: transactions of all kinds of lengths behind 0, 1 and more checkpoints: which sectors they have, by how many writes and syncs, and that nothing else is written.
func TestSectors(t *testing.T) {
	for _, n := range []int{64, 65, 66, 67, 512} {
		s := stored(t, n)
		l := opened(t, s)
		d := s.Disk()
		var snapshot []byte
		for turn := range 5 {
			var txs [][]byte
			at := 0
			lengths := []int{0, 1, 62, 63, 64, 126, 127}
			for k := range lengths {
				kind := 10*turn + k
				tx := text(kind, lengths[(k+turn)%len(lengths)])
				at = appended(t, s, l.Append, uint64(turn), len(txs), at, tx)
				txs = append(txs, tx)
			}
			rest := text(9, 63*(s.Slots()-at-1)-turn)
			at = appended(t, s, l.Append, uint64(turn), len(txs), at, rest)
			txs = append(txs, rest)
			if at != s.Slots() {
				t.Errorf("%d sectors: %d of %d used", n, at, s.Slots())
			}
			tells(t, l, snapshot, txs...)
			tells(t, opened(t, s), snapshot, txs...)
			found(t, d, snapshot, txs...)
			log := slots(t, s)
			snapshot = text(90+turn, 64*turn)
			checkpoint(t, l, snapshot)
			tells(t, l, snapshot)
			found(t, d, snapshot)
			if !slices.Equal(slots(t, s), log) {
				t.Errorf("%d sectors, turn %d: Checkpoint changed the log's sectors", n, turn)
			}
		}
	}
}

// appended appends a transaction at a sector of the log, holds the disk against what it should hold then, and answers the sector behind.
func appended(t *testing.T, s *extent.Store, add func([]byte) api.Errno, turn uint64, number, at int, tx []byte) int {
	t.Helper()
	d := s.Disk()
	want, before := image(t, d), d.Ops()
	blocks := sectors(turn, number, tx)
	copy(want[logAt(d.Len())+at:], blocks)
	answers(t, "Append", add(tx), api.OK)
	holds(t, d, want)
	pending(t, d)
	ops(t, d, before+len(blocks)+2)
	return at + len(blocks)
}

// P12.3: one transaction that has all of the log's sectors, of as many bytes as they hold, and of some less.
func TestWholeLog(t *testing.T) {
	for _, n := range []int{64, 65, 66, 67, 512} {
		for less := range 64 {
			if less > 1 && less < 62 {
				continue
			}
			s := stored(t, n)
			l := opened(t, s)
			tx := text(less, 63*(s.Slots()-1)-less)
			if need(tx) == s.Slots() != (less < 63) {
				t.Fatalf("%d bytes less: %d sectors", less, need(tx))
			}
			appended(t, s, l.Append, 0, 0, 0, tx)
			tells(t, l, nil, tx)
			found(t, s.Disk(), nil, tx)
		}
	}
}
