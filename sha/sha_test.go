package sha_test

import (
	"bytes"
	"crypto/sha256"
	"encoding/binary"
	"encoding/hex"
	"math"
	"math/rand"
	"testing"

	"hollowtree/api"
	"hollowtree/sha"
)

// drawn are n bytes, the same ones in each run.
func drawn(n int) []byte {
	b := make([]byte, n)
	rand.New(rand.NewSource(int64(n))).Read(b)
	return b
}

// lengths are those about the ends of the first blocks, where the filling grows by a block, and some of many blocks.
func lengths() []int {
	var out []int
	for n := range 200 {
		out = append(out, n)
	}
	return append(out, 247, 248, 255, 256, 257, 1000, 4096, 4151, 4152, 65535, 65536, 100000)
}

// want is the hash of b by another's reckoning.
func want(b []byte) api.Key { return api.Key(sha256.Sum256(b)) }

// wrote is a Hash into which the pieces were written.
func wrote(t *testing.T, pieces ...[]byte) *sha.Hash {
	t.Helper()
	h := sha.New()
	for _, piece := range pieces {
		if err := h.Write(piece); err != api.OK {
			t.Fatalf("Write of %d bytes: %d", len(piece), err)
		}
	}
	return h
}

// expect holds a Hash against the bytes that it should have.
func expect(t *testing.T, h *sha.Hash, b []byte, what string) {
	t.Helper()
	if h == nil {
		t.Fatalf("%s: nil", what)
	}
	if s := h.Sum(); s != want(b) {
		t.Errorf("%s: Sum of %d bytes: %x", what, len(b), s)
	}
	if h.Len() != len(b) {
		t.Errorf("%s: Len of %d bytes: %d", what, len(b), h.Len())
	}
}

// P4.1, P4.2: the chapter's examples, and others of FIPS 180-4's, among them one of a million bytes.
func TestExamples(t *testing.T) {
	for s, digits := range map[string]string{
		"":    "e3b0c44298fc1c149afbf4c8996fb92427ae41e4649b934ca495991b7852b855",
		"abc": "ba7816bf8f01cfea414140de5dae2223b00361a396177a9cb410ff61f20015ad",
		"abcdbcdecdefdefgefghfghighijhijkijkljklmklmnlmnomnopnopq":                                                         "248d6a61d20638b8e5c026930c3e6039a33ce45964ff2167f6ecedd419db06c1",
		"abcdefghbcdefghicdefghijdefghijkefghijklfghijklmghijklmnhijklmnoijklmnopjklmnopqklmnopqrlmnopqrsmnopqrstnopqrstu": "cf5b16a778af8380036ce59e7b0492370b249b11e8f07a51afac45037afee9d1",
		string(bytes.Repeat([]byte{'a'}, 1000000)):                                                                         "cdc76e5c9914fb9281a1c7e284d73e67f1809a48a497200e046d39ccc7112cd0",
	} {
		if k := sha.Sum([]byte(s)); hex.EncodeToString(k[:]) != digits {
			t.Errorf("Sum of %d bytes: %x", len(s), k)
		}
		if k := wrote(t, []byte(s)).Sum(); hex.EncodeToString(k[:]) != digits {
			t.Errorf("Sum of a Hash of %d bytes: %x", len(s), k)
		}
	}
}

// P4.1: bytes that are drawn, of every length about a block's end and of many blocks; nil is as empty.
func TestSum(t *testing.T) {
	for _, n := range lengths() {
		if b := drawn(n); sha.Sum(b) != want(b) {
			t.Errorf("Sum of %d bytes: %x", n, sha.Sum(b))
		}
	}
	if sha.Sum(nil) != sha.Sum([]byte{}) {
		t.Error("nil and empty have two hashes")
	}
}

// P4.1: bytes that are all noughts and all ones, by which a carry or a sign that is lost would be seen.
func TestSumPlain(t *testing.T) {
	for _, n := range lengths() {
		for _, x := range []byte{0, 0x80, 0xff} {
			if b := bytes.Repeat([]byte{x}, n); sha.Sum(b) != want(b) {
				t.Errorf("Sum of %d times %x: %x", n, x, sha.Sum(b))
			}
		}
	}
}

// P4.2: a new Hash has no bytes, and each New is one by itself.
func TestNew(t *testing.T) {
	h, g := sha.New(), sha.New()
	expect(t, h, nil, "new")
	h.Write([]byte("abc"))
	expect(t, g, nil, "new, beside one that was written")
	expect(t, sha.New(), nil, "new, behind one that was written")
}

// P4.2, P4.4: in two pieces, cut at each place, with each length about the ends of the first two blocks.
func TestTwoPieces(t *testing.T) {
	for _, n := range []int{0, 1, 54, 55, 56, 57, 63, 64, 65, 118, 119, 120, 127, 128, 129, 200} {
		b := drawn(n)
		for cut := range n + 1 {
			expect(t, wrote(t, b[:cut], b[cut:]), b, "in two")
		}
	}
}

// P4.2, P4.4: in pieces of one length, and of lengths that are drawn, with empty ones among them.
func TestManyPieces(t *testing.T) {
	b := drawn(1000)
	for _, step := range []int{1, 2, 7, 31, 32, 33, 63, 64, 65, 127, 128, 129, 999} {
		var pieces [][]byte
		for at := 0; at < len(b); at += step {
			pieces = append(pieces, nil, b[at:min(at+step, len(b))], []byte{})
		}
		expect(t, wrote(t, pieces...), b, "in many")
	}
	draw := rand.New(rand.NewSource(4))
	for range 200 {
		var pieces [][]byte
		for at := 0; at < len(b); {
			n := min(draw.Intn(150), len(b)-at)
			pieces = append(pieces, b[at:at+n])
			at += n
		}
		expect(t, wrote(t, pieces...), b, "in pieces that are drawn")
	}
}

// P4.2, P4.4: Sum and Len change nothing: asked twice they tell the same, and what is written goes behind what was.
func TestSumStays(t *testing.T) {
	b := drawn(300)
	h := sha.New()
	for n := range b {
		expect(t, h, b[:n], "asked")
		expect(t, h, b[:n], "asked again")
		h.Write(nil)
		expect(t, h, b[:n], "asked behind nothing")
		h.Write(b[n : n+1])
	}
	expect(t, h, b, "at the end")
}

// P4.2: a Copy has the same bytes, and it and its Hash go on by themselves, from each length within two blocks.
func TestCopy(t *testing.T) {
	b, one, other := drawn(130), drawn(70), drawn(90)
	for n := range b {
		h := wrote(t, b[:n])
		g := h.Copy()
		expect(t, g, b[:n], "copy")
		h.Write(one)
		expect(t, g, b[:n], "copy, behind a write to its Hash")
		g.Write(other)
		expect(t, h, append(b[:n:n], one...), "hash, behind a write to its copy")
		expect(t, g, append(b[:n:n], other...), "copy, written")
		expect(t, g.Copy(), append(b[:n:n], other...), "copy of a copy")
	}
}

// P4.2: of nil.
func TestNil(t *testing.T) {
	var none *sha.Hash
	for _, b := range [][]byte{nil, {}, {1}, drawn(64), drawn(200)} {
		if err := none.Write(b); err != api.ErrNil {
			t.Errorf("Write of %d bytes to nil: %d", len(b), err)
		}
	}
	if none.Sum() != (api.Key{}) || none.Len() != 0 || none.Copy() != nil {
		t.Errorf("of nil: %x, %d, %v", none.Sum(), none.Len(), none.Copy())
	}
}

// P4.2, R3: what is handed in is neither changed nor kept, the room behind it neither.
func TestHandedIn(t *testing.T) {
	for _, n := range []int{1, 55, 63, 64, 65, 130} {
		room := drawn(n + 100)
		b, before := room[:n], bytes.Clone(room)
		h := wrote(t, b)
		sum := h.Sum()
		if sha.Sum(b) != sum || !bytes.Equal(room, before) {
			t.Errorf("%d bytes were changed", n)
		}
		for i := range room {
			room[i] ^= 0xff
		}
		if h.Sum() != sum {
			t.Errorf("%d bytes were kept", n)
		}
		h.Write(before[n:])
		expect(t, h, before, "written behind bytes that were changed")
	}
}

// filling is the filling of n bytes as the chapter's words say it: noughts, till all together is a multiple of 64.
func filling(n int) []byte {
	p := []byte{0x80}
	for (n%64+len(p)+8)%64 != 0 {
		p = append(p, 0)
	}
	return binary.BigEndian.AppendUint64(p, 8*uint64(n))
}

// P4.3, P4.4: the chapter's examples, every length of the first blocks, and great ones; from 9 to 72 bytes.
func TestPad(t *testing.T) {
	for n, count := range map[int]int{0: 64, 54: 10, 55: 9, 56: 72, 57: 71, 63: 65, 64: 64, 119: 9, 120: 72} {
		if p := sha.Pad(n); len(p) != count {
			t.Errorf("Pad of %d: %d bytes", n, len(p))
		}
	}
	some := []int{1 << 16, 1<<24 - 1, 1<<29 - 1, 1 << 29, 1<<31 - 1, 1 << 40, 1<<56 + 55, 1<<61 - 9, 1<<61 - 1}
	for n := range 300 {
		some = append(some, n)
	}
	for _, n := range some {
		p := sha.Pad(n)
		if !bytes.Equal(p, filling(n)) {
			t.Errorf("Pad of %d: %x", n, p)
		}
		if len(p) < 9 || len(p) > 72 || (n+len(p))%64 != 0 {
			t.Errorf("Pad of %d has %d bytes", n, len(p))
		}
	}
}

// P4.3, R1: below 0 none; and at the greatest numbers, whose bits eight bytes don't hold, Pad still ends, at a block's end.
func TestPadWrong(t *testing.T) {
	for _, n := range []int{-1, -8, -9, -55, -56, -64, math.MinInt32, math.MinInt + 1, math.MinInt} {
		if p := sha.Pad(n); len(p) != 0 {
			t.Errorf("Pad of %d: %x", n, p)
		}
	}
	for n := math.MaxInt; n > math.MaxInt-130; n-- {
		if p := sha.Pad(n); len(p) < 9 || len(p) > 72 || (n%64+len(p))%64 != 0 {
			t.Errorf("Pad of %d has %d bytes", n, len(p))
		}
	}
}

// R3: each Pad is new memory.
func TestPadNew(t *testing.T) {
	p := sha.Pad(3)
	for i := range p {
		p[i] = 1
	}
	if !bytes.Equal(sha.Pad(3), filling(3)) {
		t.Error("Pad was changed through what it had answered")
	}
}

// P4.4: the bytes and their Pad, taken as bytes, are hashed as bytes: the filling that ends them is that of their own length.
func TestPadded(t *testing.T) {
	for _, n := range lengths() {
		b := drawn(n)
		all := append(b[:n:n], sha.Pad(n)...)
		if len(all)%64 != 0 {
			t.Errorf("%d bytes and their Pad are %d", n, len(all))
		}
		expect(t, wrote(t, b, sha.Pad(n)), all, "with the Pad")
	}
}
