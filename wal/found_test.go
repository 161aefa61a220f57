package wal_test

import (
	"bytes"
	"crypto/sha256"
	"encoding/binary"
	"math"
	"math/rand"
	"slices"
	"testing"

	"hollowtree/api"
	"hollowtree/extent"
)

// three is a Store of turn 2 with a snapshot, three transactions, and behind them sectors of earlier turns.
func three(t *testing.T) (s *extent.Store, snapshot []byte, txs [][]byte) {
	t.Helper()
	s = stored(t, 64)
	l := opened(t, s)
	for turn := range 2 {
		for k := range 4 {
			appends(t, l, text(20*turn+k, 150+turn+k))
		}
		snapshot = text(40+turn, 70)
		checkpoint(t, l, snapshot)
	}
	txs = [][]byte{text(1, 70), nil, text(3, 127), text(4, 63)}
	appends(t, l, txs...)
	found(t, s.Disk(), snapshot, txs...)
	return s, snapshot, txs
}

// starts are where transactions stand, and behind them the first sector that is not used.
func starts(txs [][]byte) []int {
	out := []int{0}
	for k := range txs {
		out = append(out, need(txs[:k+1]...))
	}
	return out
}

// spoil turns some bits of a byte of a sector of the log.
func spoil(t *testing.T, s *extent.Store, i, at int, by byte) {
	t.Helper()
	b, err := s.Slot(i)
	answers(t, "Slot", err, api.OK)
	b[at] ^= by
	put(t, s, i, b)
}

// P12.1: each byte of each sector of a transaction turned, those of its mark, the noughts ahead of its bytes and at its end too: it is none, nor is one behind it; turned back they are there again.
func TestTurnedBytes(t *testing.T) {
	s, snapshot, txs := three(t)
	at := starts(txs)
	for k := range txs {
		for i := at[k]; i < at[k+1]; i++ {
			for place := range api.Sector {
				for _, by := range []byte{1, 2, 0x80, 0xff} {
					spoil(t, s, i, place, by)
					tells(t, opened(t, s), snapshot, txs[:k]...)
					spoil(t, s, i, place, by)
				}
			}
		}
	}
	tells(t, opened(t, s), snapshot, txs...)
}

// P12.1: a sector that a transaction does not have may hold anything but the next mark.
func TestTurnedBytesBehind(t *testing.T) {
	s, snapshot, txs := three(t)
	for i := need(txs...); i < s.Slots(); i++ {
		for place := range api.Sector {
			spoil(t, s, i, place, 0xff)
		}
		tells(t, opened(t, s), snapshot, txs...)
		put(t, s, i, api.Block{})
		tells(t, opened(t, s), snapshot, txs...)
		put(t, s, i, api.Block{1})
		tells(t, opened(t, s), snapshot, txs...)
	}
}

// refused puts another mark in the place of a transaction's: neither it nor one behind it is found.
func refused(t *testing.T, k int, what string, other func(tx []byte) api.Block) {
	t.Helper()
	s, snapshot, txs := three(t)
	put(t, s, starts(txs)[k], other(txs[k]))
	tells(t, opened(t, s), snapshot, txs[:k]...)
	if t.Failed() {
		t.Fatalf("transaction %d: %s", k, what)
	}
}

// P12.1: marks whose own hash is right, of another Turn, another number, another hash.
func TestOtherMarks(t *testing.T) {
	for k := range 4 {
		for _, turn := range []uint64{0, 1, 3, 4, 2 << 8, 2 << 32, 2 << 56, 2 + 1<<32, 2 + 1<<63, math.MaxUint64} {
			refused(t, k, "another Turn", func(tx []byte) api.Block { return mark(turn, k, tx) })
		}
		for _, number := range []int{k - 1, k + 1, k + 2, k + 1<<8, k + 1<<16, k + 1<<24, k ^ 1<<31, k<<8 | 1<<8, math.MaxUint32} {
			refused(t, k, "another number", func(tx []byte) api.Block { return mark(2, number, tx) })
		}
		for at := range 16 {
			refused(t, k, "another hash", func(tx []byte) api.Block {
				hash := sha256.Sum256(tx)
				hash[at] ^= 1
				return says(2, uint32(k), uint32(len(tx)), hash[:])
			})
		}
		refused(t, k, "the hash's other half", func(tx []byte) api.Block {
			hash := sha256.Sum256(tx)
			return says(2, uint32(k), uint32(len(tx)), hash[16:])
		})
		refused(t, k, "another transaction's hash", func(tx []byte) api.Block {
			hash := sha256.Sum256(append(tx, 0))
			return says(2, uint32(k), uint32(len(tx)), hash[:])
		})
	}
}

// P12.1: marks with a count that the sectors do not hold, or that goes past the log's end.
func TestOtherCounts(t *testing.T) {
	for k := range 4 {
		for _, more := range []int{-127, -64, -63, -62, -1, 1, 2, 56, 57, 62, 63, 64, 126, 127, 500, 1 << 8, 1 << 16, 1 << 24, 1 << 31, 1<<32 - 128} {
			refused(t, k, "another count", func(tx []byte) api.Block {
				hash := sha256.Sum256(tx)
				return says(2, uint32(k), uint32(len(tx)+more), hash[:])
			})
		}
		for _, count := range []uint32{math.MaxUint32, math.MaxUint32 - 1, math.MaxUint32 - 62, 1 << 31, math.MaxInt32, 1<<31 - 63} {
			refused(t, k, "a great count", func(tx []byte) api.Block {
				hash := sha256.Sum256(tx)
				return says(2, uint32(k), count, hash[:])
			})
		}
	}
}

// P12.1: marks whose own hash is right, with another first byte, with something between the parts and byte 48, or with the hash of other bytes.
func TestOtherForms(t *testing.T) {
	for k := range 4 {
		for first := range 256 {
			if first != 1 {
				refused(t, k, "another first byte", func(tx []byte) api.Block {
					b := mark(2, k, tx)
					b[0] = byte(first)
					return sealed(b[:48])
				})
			}
		}
		for at := 33; at < 48; at++ {
			refused(t, k, "no nought", func(tx []byte) api.Block {
				b := mark(2, k, tx)
				b[at] = 1
				return sealed(b[:48])
			})
		}
		for _, end := range []int{0, 1, 33, 47, 49, 64} {
			refused(t, k, "the hash of others", func(tx []byte) api.Block {
				b := mark(2, k, tx)
				copy(b[48:], make([]byte, 16))
				hash := sha256.Sum256(b[:end])
				copy(b[48:], hash[:16])
				return b
			})
		}
		refused(t, k, "numbers with the highest byte first", func(tx []byte) api.Block {
			hash := sha256.Sum256(tx)
			b := binary.BigEndian.AppendUint64([]byte{1}, 2)
			b = binary.BigEndian.AppendUint32(b, uint32(k))
			b = binary.BigEndian.AppendUint32(b, uint32(len(tx)))
			return sealed(append(b, hash[:16]...))
		})
	}
}

// P12.1: each byte but 0 ahead of a sector's 63, and each byte but a nought behind the last one, at each place.
func TestNoughts(t *testing.T) {
	for _, length := range []int{1, 62, 63, 64, 100, 126, 127, 189} {
		s := stored(t, 64)
		tx := text(5, length)
		puts(t, s, 0, append(sectors(0, 0, tx), sectors(0, 1, nil)...)...)
		tells(t, opened(t, s), nil, tx, nil)
		for i := 1; i < need(tx); i++ {
			for by := 1; by < 256; by++ {
				spoil(t, s, i, 0, byte(by))
				tells(t, opened(t, s), nil)
				spoil(t, s, i, 0, byte(by))
			}
		}
		for place := 1 + (length-1)%63 + 1; place < 64; place++ {
			for by := 1; by < 256; by += 7 {
				spoil(t, s, need(tx)-1, place, byte(by))
				tells(t, opened(t, s), nil)
				spoil(t, s, need(tx)-1, place, byte(by))
			}
		}
		tells(t, opened(t, s), nil, tx, nil)
	}
}

// P12.1: transactions whose last bytes are noughts: the mark's count alone tells how many there are.
func TestEndInNoughts(t *testing.T) {
	for length := range 130 {
		s := stored(t, 64)
		l := opened(t, s)
		tx := make([]byte, length)
		appends(t, l, tx, []byte{0}, tx)
		found(t, s.Disk(), nil, tx, []byte{0}, tx)
	}
	s := stored(t, 64)
	long := append([]byte("ab"), make([]byte, 61)...)
	puts(t, s, 0, sectors(0, 0, long)...)
	tells(t, opened(t, s), nil, long)
	for count := 63; count >= 2; count-- {
		put(t, s, 0, mark(0, 0, long[:count]))
		tells(t, opened(t, s), nil, long[:count])
	}
	put(t, s, 0, mark(0, 0, long[:1]))
	tells(t, opened(t, s), nil)
}

// P12.1: at the log's end: a transaction whose last sector is the log's last one is there; one that would go on behind it is not, whatever the disk has.
func TestLogsEnd(t *testing.T) {
	for _, n := range []int{64, 65, 66, 67, 511, 512} {
		s := stored(t, n)
		for _, ahead := range []int{0, 1, s.Slots() - 3, s.Slots() - 2, s.Slots() - 1} {
			at := 0
			var txs [][]byte
			for k := range ahead {
				txs = append(txs, nil)
				at = puts(t, s, at, sectors(0, k, nil)...)
			}
			most := 63 * (s.Slots() - ahead - 1)
			for _, length := range []int{most, max(most-1, 0), most + 1, most + 63, most + 64} {
				tx := text(7, length)
				blocks := sectors(0, ahead, tx)
				puts(t, s, at, blocks[:min(len(blocks), s.Slots()-at)]...)
				want := txs
				if length <= most {
					want = append(slices.Clip(txs), tx)
				}
				if length <= most && len(blocks) < s.Slots()-at {
					put(t, s, at+len(blocks), api.Block{})
				}
				tells(t, opened(t, s), nil, want...)
			}
		}
	}
}

// P12.1: a Log is found as the section 'Words' says it, whoever wrote it, and goes on from there.
func TestMadeByHand(t *testing.T) {
	for _, turn := range []uint64{0, 1, 2, 255, 256, 1 << 40} {
		s := turned(t, turn)
		at := 0
		txs := [][]byte{text(1, 1), nil, text(2, 62), text(3, 63), text(4, 64), nil, text(5, 126), text(6, 127)}
		for k, tx := range txs {
			at = puts(t, s, at, sectors(turn, k, tx)...)
			tells(t, opened(t, s), nil, txs[:k+1]...)
		}
		l := opened(t, s)
		more := text(9, 100)
		appends(t, l, more)
		for i, b := range sectors(turn, len(txs), more) {
			slot(t, s, at+i, b)
		}
		found(t, s.Disk(), nil, append(txs, more)...)
	}
}

// P12.1: right marks of the next number that lie where no transaction ends are not looked at.
func TestMarksElsewhere(t *testing.T) {
	s, snapshot, txs := three(t)
	free := need(txs...)
	next := sectors(2, len(txs), text(8, 100))
	put(t, s, free, api.Block{})
	for i := free + 1; i < s.Slots(); i++ {
		puts(t, s, i, next[:min(len(next), s.Slots()-i)]...)
		tells(t, opened(t, s), snapshot, txs...)
		put(t, s, i, sectors(2, len(txs), nil)[0])
		tells(t, opened(t, s), snapshot, txs...)
		put(t, s, i, sectors(2, 0, nil)[0])
		tells(t, opened(t, s), snapshot, txs...)
	}
	puts(t, s, free, next...)
	tells(t, opened(t, s), snapshot, append(txs, text(8, 100))...)
}

// P12.1: a right mark within a transaction's sectors spoils it, and is not one itself.
func TestMarksWithin(t *testing.T) {
	s := stored(t, 64)
	tx := text(1, 300)
	puts(t, s, 0, append(sectors(0, 0, tx), sectors(0, 1, nil)...)...)
	for i := 1; i < need(tx); i++ {
		was, _ := s.Slot(i)
		for _, number := range []int{0, 1} {
			put(t, s, i, mark(0, number, nil))
			tells(t, opened(t, s), nil)
		}
		put(t, s, i, was)
		tells(t, opened(t, s), nil, tx, nil)
	}
}

// P12.4: no bytes that are appended are taken for a mark: transactions out of marks, whole and without their first byte, at all places, behind transactions of an earlier turn that end where they stand.
func TestBytesLikeMarks(t *testing.T) {
	var whole, parts []byte
	for turn := range uint64(3) {
		for number := range 3 {
			b := mark(turn, number, nil)
			whole = append(whole, b[:]...)
			parts = append(parts, b[1:]...)
		}
	}
	for cut := range 64 {
		s := stored(t, 64)
		l := opened(t, s)
		for turn := range 3 {
			appends(t, l, whole[cut:], parts[:63*(turn+1)], parts[63*turn:63*(9-turn)])
			found(t, s.Disk(), l.Snapshot(), whole[cut:], parts[:63*(turn+1)], parts[63*turn:63*(9-turn)])
			checkpoint(t, l, []byte{byte(turn)})
			found(t, s.Disk(), []byte{byte(turn)})
			appends(t, l, nil)
			found(t, s.Disk(), []byte{byte(turn)}, nil)
			appends(t, l, nil, nil)
			found(t, s.Disk(), []byte{byte(turn)}, nil, nil, nil)
			checkpoint(t, l, []byte{byte(turn)})
		}
	}
}

// P12.4: an Append of marks is cut ahead of its own: none of them is taken for it, whatever survives.
func TestBytesLikeMarksCut(t *testing.T) {
	next := mark(0, 1, nil)
	lists := [][]byte{next[:], next[1:], bytes.Repeat(next[1:], 4), bytes.Repeat(next[:], 3)}
	for _, tx := range lists {
		for n := range need(tx) + 1 { // all but the mark, and a sync
			s := stored(t, 64)
			l := opened(t, s)
			appends(t, l, text(1, 10))
			arm(t, s.Disk(), n)
			answers(t, "Append", l.Append(tx), api.ErrDead)
			crash(t, s.Disk(), true, true, true, true, true)
			found(t, s.Disk(), nil, text(1, 10))
		}
	}
}

// P12.1, P12.3: transactions of an earlier turn, even of the same bytes and at the same places, are none of a later one.
func TestEarlierTurns(t *testing.T) {
	txs := [][]byte{text(1, 70), nil, text(2, 63), text(3, 200), nil}
	s := stored(t, 64)
	l := opened(t, s)
	for turn := range 6 {
		snapshot := []byte{byte(turn)}
		appends(t, l, txs...)
		checkpoint(t, l, snapshot)
		found(t, s.Disk(), snapshot)
		for k := range txs {
			appends(t, l, txs[k])
			found(t, s.Disk(), snapshot, txs[:k+1]...)
		}
		checkpoint(t, l, snapshot)
		found(t, s.Disk(), snapshot)
	}
}

// byWords are the transactions of a Turn in a log's sectors, by the chapter's words.
func byWords(blocks []api.Block, turn uint64) [][]byte {
	var txs [][]byte
	for len(blocks) > 0 {
		b := blocks[0]
		hash := sha256.Sum256(b[:48])
		count := int(binary.LittleEndian.Uint32(b[13:]))
		switch {
		case b[0] != 1, binary.LittleEndian.Uint64(b[1:]) != turn, binary.LittleEndian.Uint32(b[9:]) != uint32(len(txs)), !bytes.Equal(b[33:48], make([]byte, 15)), !bytes.Equal(b[48:], hash[:16]):
			return txs
		}
		behind := (count + 62) / 63
		if behind > len(blocks)-1 {
			return txs
		}
		var all []byte
		for _, x := range blocks[1 : 1+behind] {
			if x[0] != 0 {
				return txs
			}
			all = append(all, x[1:]...)
		}
		hash = sha256.Sum256(all[:count])
		if !bytes.Equal(hash[:16], b[17:33]) || bytes.Count(all[count:], []byte{0}) != len(all)-count {
			return txs
		}
		txs = append(txs, all[:count])
		blocks = blocks[1+behind:]
	}
	return txs
}

// drawnLog is sectors most of which are those of transactions, one behind the other, with something wrong here and there.
func drawnLog(r *rand.Rand, n int, turn uint64) []api.Block {
	var out []api.Block
	for number := 0; len(out) < n; number++ {
		tx := text(r.Intn(200), []int{0, 1, 62, 63, 64, 126, 127, r.Intn(300), r.Intn(2000)}[r.Intn(9)])
		if r.Intn(3) == 0 {
			tx = make([]byte, len(tx))
		}
		of := turn
		switch r.Intn(40) {
		case 0:
			of++
		case 1:
			number++
		}
		blocks := sectors(of, number, tx)
		switch r.Intn(30) {
		case 0:
			blocks[r.Intn(len(blocks))][r.Intn(64)] ^= 1 << r.Intn(8)
		case 1:
			blocks = slices.Delete(blocks, len(blocks)-1, len(blocks))
		case 2:
			blocks = append(blocks, blocks[len(blocks)-1])
		case 3:
			hash := sha256.Sum256(tx)
			blocks[0] = says(of, uint32(number), uint32(len(tx)+r.Intn(5)-2), hash[:])
		}
		out = append(out, blocks...)
	}
	return out[:n]
}

// P12.1: drawn sectors of the log, held against a reading of them by the chapter's words; and Open goes on behind what it found.
func TestDrawnLogs(t *testing.T) {
	r := rand.New(rand.NewSource(21))
	counts := map[int]int{}
	for range 3000 {
		n := []int{64, 65, 66, 67, 100}[r.Intn(5)]
		s := stored(t, n)
		log := drawnLog(r, s.Slots(), 0)
		puts(t, s, 0, log...)
		want := byWords(log, 0)
		counts[len(want)]++
		l := opened(t, s)
		tells(t, l, nil, want...)
		if more := text(201, r.Intn(100)); l.Room(len(more)) {
			appends(t, l, more)
			found(t, s.Disk(), nil, byWords(slots(t, s), 0)...)
		}
		if t.Failed() {
			t.Fatalf("the log %x", log)
		}
	}
	if len(counts) < 8 {
		t.Errorf("how many transactions, how often: %v", counts)
	}
}
