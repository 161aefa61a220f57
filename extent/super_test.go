package extent_test

import (
	"bytes"
	"crypto/sha256"
	"encoding/hex"
	"math"
	"testing"

	"hollowtree/api"
	"hollowtree/disk"
	"hollowtree/extent"
)

func bytesOf(t *testing.T, digits string) (b api.Block) {
	t.Helper()
	list, err := hex.DecodeString(digits)
	if err != nil || len(list) != api.Sector {
		t.Fatalf("%s: %v", digits, err)
	}
	copy(b[:], list)
	return b
}

func sector(t *testing.T, d *disk.Disk, i int, want api.Block) {
	t.Helper()
	if got, err := d.Read(i); got != want || err != api.OK {
		t.Errorf("sector %d: %x %d, not %x", i, got, err, want)
	}
}

// P11.1, P11.2: superblocks that another program put together (Python's hashlib and struct), byte for byte, and in which sector they stand.
func TestSuperblocks(t *testing.T) {
	zero := bytesOf(t, "686f6c6c6f77747265650000000000000000000000000000e3b0c44298fc1c149afbf4c8996fb9240000000000000000211466cd890f6e6176db05fd3d217d00")
	one := bytesOf(t, "686f6c6c6f77747265650100010000000000000003000000039058c6f2c0cb492c533b0a4d14ef770000000000000000e538a6514b23bac32268c94b9432d9db")
	two := bytesOf(t, "686f6c6c6f777472656500000200000000000000c0030000235d24ac30bc4a598ca2a6b4748a39160000000000000000bb69438e23b557b959cbc9f009adeca5")
	d := made(t, 64)
	s := format(t, d)
	sector(t, d, 0, zero)
	sector(t, d, 1, api.Block{})
	take(t, s, []byte{1, 2, 3})
	sector(t, d, 0, zero)
	sector(t, d, 1, one)
	sevens := make([]byte, 960)
	for i := range sevens {
		sevens[i] = byte(i * 7)
	}
	take(t, s, sevens)
	sector(t, d, 0, two)
	sector(t, d, 1, one)
}

// P11.1, P11.2: a turn of which each byte is another one, there and one more.
func TestSuperblockOfGreatTurn(t *testing.T) {
	d := made(t, 64)
	write(t, d, 1, bytesOf(t, "686f6c6c6f777472656501000907060504030201410000009537c5fdf120482f7d58d25e9ed583f5000000000000000028afe5e6412b8c8e835f069eabd35aaa"))
	x := bytes.Repeat([]byte{'x'}, 65)
	lay(t, d, first(64, 1), x)
	s := opened(t, d)
	tells(t, s, 0x0102030405060709, x)
	take(t, s, text(1, 70))
	tells(t, s, 0x010203040506070a, text(1, 70))
	sector(t, d, 0, super(0, 0x010203040506070a, text(1, 70)))
}

// two is a disk with snapshots of turn 1 (text(1, 130), place 1, sector 1) and turn 2 (text(2, 70), place 0, sector 0).
func two(t *testing.T) *disk.Disk {
	t.Helper()
	d := made(t, 64)
	s := format(t, d)
	take(t, s, text(1, 130))
	take(t, s, text(2, 70))
	return d
}

// spoil turns some bits of a byte of a sector.
func spoil(t *testing.T, d *disk.Disk, i, at int, by byte) {
	t.Helper()
	b, err := d.Read(i)
	answers(t, "Read", err, api.OK)
	b[at] ^= by
	write(t, d, i, b)
}

// P11.1: of two superblocks one is spoilt, at each of its bytes: the other one counts; both are: ErrFormat.
func TestSpoilt(t *testing.T) {
	for at := range api.Sector {
		for _, by := range []byte{1, 2, 0x80, 0xff} {
			newer := two(t)
			spoil(t, newer, 0, at, by)
			tells(t, opened(t, newer), 1, text(1, 130))

			older := two(t)
			spoil(t, older, 1, at, by)
			tells(t, opened(t, older), 2, text(2, 70))

			both := two(t)
			spoil(t, both, 0, at, by)
			spoil(t, both, 1, 63-at, by)
			want, before := image(t, both), both.Ops()
			unopened(t, both, api.ErrFormat)
			holds(t, both, want)
			ops(t, both, before)
		}
	}
}

// P11.1: each byte of the one superblock of a disk that was just formatted.
func TestSpoiltFirst(t *testing.T) {
	for at := range api.Sector {
		for bit := range 8 {
			d := made(t, 64)
			format(t, d)
			spoil(t, d, 0, at, 1<<bit)
			unopened(t, d, api.ErrFormat)
			spoil(t, d, 0, at, 1<<bit)
			tells(t, opened(t, d), 0, nil)
		}
	}
}

// P11.1: superblocks that are not so, with a hash that belongs to their bytes: other letters, a third place, something where noughts belong.
func TestNotSo(t *testing.T) {
	right := super(1, 9, text(3, 64))
	for at := range 48 {
		if at >= 12 && at < 40 || at == 10 {
			continue // the turn, the count, the hash, the place: these may be others
		}
		for _, by := range []byte{1, 0x20, 0xff} {
			b := right
			b[at] ^= by
			spoiltFront(t, b[:48])
		}
	}
	for _, place := range []byte{2, 3, 0x80, 0x81, 0xff} {
		b := right
		b[10] = place
		spoiltFront(t, b[:48])
	}
	spoiltFront(t, nil)
	spoiltFront(t, bytes.Repeat([]byte{0xff}, 48))
}

func spoiltFront(t *testing.T, front []byte) {
	t.Helper()
	for i := range 2 {
		d := made(t, 64)
		lay(t, d, first(64, 0), text(3, 64))
		lay(t, d, first(64, 1), text(3, 64))
		write(t, d, i, sealed(front))
		unopened(t, d, api.ErrFormat)
		older := super(0, 4, text(3, 64))
		write(t, d, 1-i, older)
		tells(t, opened(t, d), 4, text(3, 64))
	}
}

// P11.1: the hash at a superblock's end is that of its 48 bytes, not of its noughts or of nothing, and just its first 16 bytes count.
func TestOtherHashes(t *testing.T) {
	right := super(0, 0, nil)
	all, none := sha256.Sum256(right[:]), sha256.Sum256(nil)
	its := sha256.Sum256(right[:48])
	for _, end := range [][]byte{make([]byte, 16), all[:16], none[:16], its[16:], its[1:17]} {
		b := right
		copy(b[48:], end)
		d := made(t, 64)
		write(t, d, 0, b)
		unopened(t, d, api.ErrFormat)
	}
}

// P11.1, P11.2: which of two right superblocks counts: the greater turn, wherever it stands; of equal ones the first.
func TestCounts(t *testing.T) {
	a, b := text(4, 65), text(5, 129)
	const most = math.MaxUint64
	for _, x := range []struct {
		one, two uint64
		second   bool
	}{
		{0, 1, true}, {1, 0, false}, {2, 1, false}, {2, 3, true}, {7, 7, false}, {0, 0, false}, {most, most, false},
		{3, 8, true}, {9, 8, false}, {255, 256, true}, {256, 255, false}, {1 << 32, 1, false}, {1, 1 << 32, true},
		{1 << 63, 1<<63 - 1, false}, {1<<63 - 1, 1 << 63, true}, {most, 0, false}, {0, most, true}, {most - 1, most, true}, {1 << 56, 0xff, false},
	} {
		for place := range byte(2) {
			d := made(t, 64)
			write(t, d, 0, super(place, x.one, a))
			write(t, d, 1, super(1-place, x.two, b))
			lay(t, d, first(64, int(place)), a)
			lay(t, d, first(64, 1-int(place)), b)
			if x.second {
				tells(t, opened(t, d), x.two, b)
			} else {
				tells(t, opened(t, d), x.one, a)
			}
		}
	}
}

// P11.2: Take behind superblocks of equal turns: the place of the first one stays, the next turn goes into its own sector.
func TestTakeBehindEqualTurns(t *testing.T) {
	for _, at := range []uint64{0, 1, 6, 7} {
		d := made(t, 64)
		write(t, d, 0, super(1, at, text(4, 65)))
		write(t, d, 1, super(0, at, text(5, 129)))
		lay(t, d, first(64, 1), text(4, 65))
		lay(t, d, first(64, 0), text(5, 129))
		s := opened(t, d)
		tells(t, s, at, text(4, 65))
		take(t, s, text(6, 200))
		tells(t, s, at+1, text(6, 200))
		tells(t, opened(t, d), at+1, text(6, 200))
		sector(t, d, int(at+1)%2, super(0, at+1, text(6, 200)))
	}
}

// P11.1: a right superblock whose snapshot does not fit into its place, though the log behind has all of its bytes; the other superblock does not help. One that just fits is told.
func TestDoesNotFit(t *testing.T) {
	for _, n := range []int{64, 67, 512} {
		most := 64 * half(n)
		for place := range 2 {
			for _, size := range []int{most + 1, most + 64, 2 * most} {
				d := used(t, n)
				b := text(7, size)
				if last := first(n, place) + (size+63)/64; last > n {
					t.Fatalf("%d sectors are too few", n)
				}
				lay(t, d, first(n, place), b)
				write(t, d, 0, super(0, 0, nil))
				write(t, d, 1, super(byte(place), 1, b))
				unopened(t, d, api.ErrFormat)
				write(t, d, 1, super(byte(place), 1, b[:most]))
				tells(t, opened(t, d), 1, b[:most])
			}
		}
	}
}

// P11.1: counts of bytes up to the greatest that four bytes hold.
func TestFarTooLong(t *testing.T) {
	for _, size := range []uint32{961, 1024, 4096, 64 * 64, 1 << 16, 1<<31 - 1, 1 << 31, 1<<31 + 1, 1<<32 - 64, 1<<32 - 1} {
		for place := range byte(2) {
			d := made(t, 64)
			format(t, d)
			hash := sha256.Sum256(nil)
			write(t, d, 1, says(place, 1, size, hash[:]))
			unopened(t, d, api.ErrFormat)
		}
	}
}

// P11.1: a snapshot whose bytes have another hash: each byte of it, its count, each byte of its hash; the other superblock does not help.
func TestOtherBytes(t *testing.T) {
	for at := range 130 {
		d := made(t, 64)
		s := format(t, d)
		take(t, s, text(3, 20))
		take(t, s, text(2, 130))
		spoil(t, d, first(64, 0)+at/64, at%64, 1<<(at%8))
		unopened(t, d, api.ErrFormat)
		spoil(t, d, first(64, 0)+at/64, at%64, 1<<(at%8))
		tells(t, opened(t, d), 2, text(2, 130))
	}
	b := text(2, 130)
	hash := sha256.Sum256(b)
	for _, size := range []uint32{0, 1, 128, 129, 131, 192} {
		d := two(t)
		lay(t, d, first(64, 1), b)
		write(t, d, 1, says(1, 5, size, hash[:]))
		unopened(t, d, api.ErrFormat)
	}
	for at := range 16 {
		d := two(t)
		lay(t, d, first(64, 1), b)
		other := hash
		other[at] ^= 1 << (at % 8)
		write(t, d, 1, says(1, 5, 130, other[:]))
		unopened(t, d, api.ErrFormat)
		write(t, d, 1, says(1, 5, 130, hash[:]))
		tells(t, opened(t, d), 5, b)
	}
}

// P11.1, P11.2, P11.3: without power; what is wrong of the arguments goes ahead of it where the chapter names it first.
func TestWithoutPower(t *testing.T) {
	d := two(t)
	s := opened(t, d)
	cut(t, d)
	unopened(t, d, api.ErrDead)
	unformatted(t, d, api.ErrDead)
	unread(t, s, api.ErrDead)
	turn(t, s, 2)
	answers(t, "Take", s.Take(nil), api.ErrDead)
	answers(t, "Take", s.Take(text(1, 960)), api.ErrDead)
	answers(t, "Take of too many", s.Take(text(1, 961)), api.ErrLong)
	answers(t, "Sync", s.Sync(), api.ErrDead)
	if s.Disk() != d {
		t.Errorf("Disk: another one")
	}
	room(t, s, 64)
	crash(t, d)
	tells(t, s, 2, text(2, 70))
	fresh := made(t, 64)
	cut(t, fresh)
	unopened(t, fresh, api.ErrDead)
	crash(t, fresh)
	unopened(t, fresh, api.ErrFormat)
}

// P11.2: Snapshot tells the bytes as the disk has them now: behind writes over them it has none; written back it has them again. What is beside them does not matter.
func TestSnapshotWrittenOver(t *testing.T) {
	for _, size := range []int{1, 63, 64, 65, 130, 960} {
		for turns := 1; turns <= 2; turns++ {
			d := made(t, 64)
			s := format(t, d)
			for range turns {
				take(t, s, text(3, size))
			}
			from, last := first(64, turns%2), (size-1)/64
			for i := range last + 1 {
				was, _ := d.Read(from + i)
				write(t, d, from+i, block(5))
				unread(t, s, api.ErrFormat)
				turn(t, s, uint64(turns))
				unopened(t, d, api.ErrFormat)
				write(t, d, from+i, was)
				tells(t, s, uint64(turns), text(3, size))
			}
			if size%64 != 0 {
				spoil(t, d, from+last, size%64, 0xff)
			}
			for i := 2; i < 64; i++ {
				if i < from || i > from+last {
					write(t, d, i, block(6))
				}
			}
			tells(t, s, uint64(turns), text(3, size))
			tells(t, opened(t, d), uint64(turns), text(3, size))
			write(t, d, from, block(5))
			unread(t, s, api.ErrFormat)
			take(t, s, text(4, 300))
			tells(t, s, uint64(turns)+1, text(4, 300))
		}
	}
}

// P11.2: Snapshot behind a superblock was written over, with power: by the chapter's words the other one counts; with both gone none does, and nothing is taken into a disk that is spoilt.
func TestSuperblockWrittenOver(t *testing.T) {
	d := two(t)
	s := opened(t, d)
	write(t, d, 0, block(5))
	tells(t, s, 1, text(1, 130))
	write(t, d, 1, block(5))
	unread(t, s, api.ErrFormat)
	turn(t, s, 0)
	want := image(t, d)
	answers(t, "Take", s.Take(text(1, 5)), api.ErrFormat)
	answers(t, "Take of too many", s.Take(text(1, 961)), api.ErrLong)
	holds(t, d, want)
	pending(t, d, 0, 1)
	write(t, d, 0, super(0, 2, text(2, 70)))
	tells(t, s, 2, text(2, 70))
}

// R8, P11.2: behind the greatest turn there is none; Take changes nothing then.
func TestGreatestTurn(t *testing.T) {
	d := made(t, 64)
	write(t, d, 0, super(1, math.MaxUint64-1, []byte{1}))
	lay(t, d, first(64, 1), []byte{1})
	s := opened(t, d)
	take(t, s, []byte{2})
	tells(t, s, math.MaxUint64, []byte{2})
	want, before := image(t, d), d.Ops()
	answers(t, "Take", s.Take([]byte{3}), api.ErrLong)
	holds(t, d, want)
	ops(t, d, before)
	for _, x := range []*extent.Store{s, opened(t, d)} {
		tells(t, x, math.MaxUint64, []byte{2})
	}
}
