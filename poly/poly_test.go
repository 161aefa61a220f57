package poly_test

import (
	"bytes"
	"encoding/hex"
	"math/big"
	"math/rand"
	"slices"
	"strings"
	"testing"

	"hollowtree/api"
	"hollowtree/poly"
)

// drawn are n bytes, the same ones in each run.
func drawn(n int) []byte {
	b := make([]byte, n)
	rand.New(rand.NewSource(int64(n))).Read(b)
	return b
}

// of is the list of that many bytes c.
func of(c byte, n int) []byte { return bytes.Repeat([]byte{c}, n) }

// bytesOf are the bytes that the digits stand for.
func bytesOf(t *testing.T, digits string) []byte {
	t.Helper()
	b, err := hex.DecodeString(digits)
	if err != nil {
		t.Fatal(err)
	}
	return b
}

// filled are the digits, and so many noughts behind them as make 16 bytes.
func filled(digits string) string { return digits + strings.Repeat("0", 32-len(digits)) }

// keyOf is the key of these parts, which have 32 bytes together.
func keyOf(parts ...[]byte) api.Key { return api.Key(slices.Concat(parts...)) }

// keys are those of noughts, of ones and of unlike bytes, and some whose halves are of noughts or of ones.
func keys() []api.Key {
	return []api.Key{
		{},
		keyOf(of(0xff, 32)),
		keyOf(drawn(32)),
		keyOf(of(0, 16), of(0xff, 16)),
		keyOf(of(0xff, 16), of(0, 16)),
		keyOf(of(0, 16), drawn(16)),
		keyOf(drawn(16), of(0xff, 16)),
		{1},
		{2},
		{16: 1},
	}
}

// lengths are those about the ends of the first blocks, and some of many blocks.
func lengths() []int {
	var out []int
	for n := range 100 {
		out = append(out, n)
	}
	return append(out, 127, 128, 129, 255, 256, 257, 1000, 4095, 4096, 4097, 70001)
}

// texts are those of noughts, of ones and of unlike bytes, of all lengths.
func texts() [][]byte {
	var out [][]byte
	for _, n := range lengths() {
		out = append(out, make([]byte, n), of(0xff, n), drawn(n))
	}
	return out
}

// whole is 2^power + more.
func whole(power uint, more int64) *big.Int {
	x := new(big.Int).Lsh(big.NewInt(1), power)
	return x.Add(x, big.NewInt(more))
}

func prime() *big.Int { return whole(130, -5) }

// number is the one whose bytes b are, the lowest first.
func number(b []byte) *big.Int {
	turned := slices.Clone(b)
	slices.Reverse(turned)
	return new(big.Int).SetBytes(turned)
}

// low are the 16 lowest bytes of x.
func low(x *big.Int) api.Tag {
	var tag api.Tag
	new(big.Int).Mod(x, whole(128, 0)).FillBytes(tag[:])
	slices.Reverse(tag[:])
	return tag
}

// multiplier and addend are a key's, as numbers: the bits that count are those of the number that the standard writes down.
func multiplier(key api.Key) *big.Int {
	counts, _ := new(big.Int).SetString("0ffffffc0ffffffc0ffffffc0fffffff", 16)
	return counts.And(counts, number(key[:16]))
}

func addend(key api.Key) *big.Int { return number(key[16:]) }

// sumOf is what the code is ahead of the addend, by whole numbers, as the chapter's words say it.
func sumOf(key api.Key, b []byte) *big.Int {
	a, r := new(big.Int), multiplier(key)
	for part := range slices.Chunk(b, 16) {
		n := number(part)
		n.Add(n, whole(uint(8*len(part)), 0))
		a.Mod(a.Mul(a.Add(a, n), r), prime())
	}
	return a
}

// codeOf is the code by whole numbers.
func codeOf(key api.Key, b []byte) api.Tag {
	a := sumOf(key, b)
	return low(a.Add(a, addend(key)))
}

// wrote is a Code into which the pieces were written.
func wrote(t *testing.T, key api.Key, pieces ...[]byte) *poly.Code {
	t.Helper()
	c := poly.New(key)
	if c == nil {
		t.Fatal("New: nil")
	}
	for _, piece := range pieces {
		if err := c.Write(piece); err != api.OK {
			t.Fatalf("Write of %d bytes: %d", len(piece), err)
		}
	}
	return c
}

// expect holds Mac, and a Code to which all is written at once, against what the code should be.
func expect(t *testing.T, key api.Key, b []byte, want api.Tag) {
	t.Helper()
	if got := poly.Mac(key, b); got != want {
		t.Errorf("Mac of %x and %d bytes, %.40x: %x, not %x", key, len(b), b, got, want)
	}
	if got := wrote(t, key, b).Tag(); got != want {
		t.Errorf("Tag of %x and %d bytes, %.40x: %x, not %x", key, len(b), b, got, want)
	}
}

const contribution = `Any submission to the IETF intended by the Contributor for publication as all or part of an IETF Internet-Draft or RFC and any statement made within the context of an IETF activity is considered an "IETF Contribution". Such statements include oral statements in IETF sessions, as well as written and electronic communications made at any time or place, which are addressed to`

const brillig = "'Twas brillig, and the slithy toves\nDid gyre and gimble in the wabe:\nAll mimsy were the borogoves,\nAnd the mome raths outgrabe."

// P7.1, P7.2: the chapter's examples, and RFC 8439's (2.5.2 and A.3).
func TestExamples(t *testing.T) {
	ones, noughts := strings.Repeat("f", 32), strings.Repeat("0", 32)
	some := "36e5f6b5c5e06070f0efca96227a863e"
	text := func(s string) string { return hex.EncodeToString([]byte(s)) }
	for _, x := range []struct{ key, text, want string }{
		{"85d6be7857556d337f4452fe42d506a80103808afb0db2fd4abff6af4149f51b", text("Cryptographic Forum Research Group"), "a8061dc1305136c6c22b8baf0c0127a9"},
		{noughts + noughts, noughts + noughts + noughts + noughts, noughts},
		{noughts + some, text(contribution), some},
		{some + noughts, text(contribution), "f3477e7cd95417af89a6b8794c310cf0"},
		{"1c9240a5eb55d38af333888604f6b5f0473917c1402b80099dca5cbc207075c0", text(brillig), "4541669a7eaaee61e708dc7cbcc5eb62"},
		{filled("02") + noughts, ones, filled("03")},
		{filled("02") + ones, filled("02"), filled("03")},
		{filled("01") + noughts, ones + "f0" + ones[2:] + filled("11"), filled("05")},
		{filled("01") + noughts, ones + "fb" + strings.Repeat("fe", 15) + strings.Repeat("01", 16), noughts},
		{filled("02") + noughts, "fd" + ones[2:], "fa" + ones[2:]},
		{filled("010000000000000004") + noughts, filled("e33594d7505e43b9") + filled("3394d7505e4379cd01") + noughts + filled("01"), filled("14000000000000005500")},
		{filled("010000000000000004") + noughts, filled("e33594d7505e43b9") + filled("3394d7505e4379cd01") + noughts, filled("13")},
	} {
		expect(t, api.Key(bytesOf(t, x.key)), bytesOf(t, x.text), api.Tag(bytesOf(t, x.want)))
	}
}

// P7.1: codes that another program made, of texts of every length about the ends of the first two blocks, by a key of unlike bytes.
func TestOther(t *testing.T) {
	var key api.Key
	var text [33]byte
	for i := range key {
		key[i] = byte(7*i + 3)
	}
	for i := range text {
		text[i] = byte(29*i + 200)
	}
	for n, want := range map[int]string{
		0:  "737a81888f969da4abb2b9c0c7ced5dc",
		1:  "e44fdbe67d78091573a6374368d465f1",
		15: "7e900ab282689ae8796909a1b5370822",
		16: "7803ee6e59bd4f4c32a090ab4f50e9a6",
		17: "3ca0bcff00df959f46d4a2fd55d841b3",
		31: "db48469fcd8546b5f7b2aae901a854ee",
		32: "7dbd45cab54501f82abe204480fe4de0",
		33: "afa42dcb0ad06843afb3304ddd9c3627",
	} {
		expect(t, key, text[:n], api.Tag(bytesOf(t, want)))
	}
}

// P7.1: Mac of texts of all lengths, of noughts, of ones and of unlike bytes, by keys of such ones.
func TestMac(t *testing.T) {
	for _, key := range keys() {
		for _, b := range texts() {
			expect(t, key, b, codeOf(key, b))
		}
	}
}

// P7.1, R5: what is drawn, and the same once more.
func TestMacDrawn(t *testing.T) {
	draw := rand.New(rand.NewSource(7))
	for range 2000 {
		var key api.Key
		draw.Read(key[:])
		b := make([]byte, draw.Intn(150))
		draw.Read(b)
		want := codeOf(key, b)
		expect(t, key, b, want)
		expect(t, key, b, want)
	}
}

// P7.1: how many bytes there are counts: so many noughts are not as any other number of them, nor are some bytes as those with a nought or a one behind them.
func TestLengthCounts(t *testing.T) {
	for _, key := range []api.Key{keyOf(of(0xff, 32)), keyOf(drawn(32))} {
		seen := map[api.Tag]int{}
		for n := range 80 {
			tag := poly.Mac(key, make([]byte, n))
			if at, ok := seen[tag]; ok {
				t.Errorf("%x: %d noughts are as %d", key, n, at)
			}
			seen[tag] = n
		}
		for n := range 80 {
			for _, more := range []byte{0, 1} {
				if poly.Mac(key, drawn(n)) == poly.Mac(key, append(drawn(n), more)) {
					t.Errorf("%x: %d bytes are as those with %d behind them", key, n, more)
				}
			}
		}
	}
}

// P7.1: each bit of a text counts.
func TestTextBits(t *testing.T) {
	key := keyOf(drawn(32))
	for _, n := range []int{1, 15, 16, 17, 31, 32, 33, 48} {
		b := drawn(n)
		seen := map[api.Tag]bool{poly.Mac(key, b): true}
		for i := range 8 * n {
			b[i/8] ^= 1 << (i % 8)
			tag := poly.Mac(key, b)
			if seen[tag] {
				t.Errorf("bit %d of %d bytes does not count", i, n)
			}
			seen[tag] = true
			expect(t, key, b, codeOf(key, b))
			b[i/8] ^= 1 << (i % 8)
		}
	}
}

// P7.1: each bit of a key goes where it belongs: by one bit of the multiplier, and by one of the addend.
func TestKeyBits(t *testing.T) {
	for i := range 256 {
		one, all := api.Key{}, keyOf(of(0xff, 32))
		one[i/8] ^= 1 << (i % 8)
		all[i/8] ^= 1 << (i % 8)
		for _, b := range [][]byte{nil, {1}, of(0xff, 16), of(0xff, 17), drawn(70)} {
			expect(t, one, b, codeOf(one, b))
			expect(t, all, b, codeOf(all, b))
		}
	}
}

// sumTo is a text of three blocks whose numbers are x together, about 2^130; the second one's own bytes are those of middle.
func sumTo(x, middle *big.Int) []byte {
	rest := new(big.Int).Sub(x, new(big.Int).Lsh(big.NewInt(3), 128))
	one, two := low(rest.Sub(rest, middle)), low(middle)
	return slices.Concat(one[:], two[:], make([]byte, 16))
}

// P7.1: sums that come to 2^130 - 5, to a little less and to a little more, before s is added; s is 0, small, and so great that the sum runs over 2^128.
func TestPrime(t *testing.T) {
	addends := [][]byte{make([]byte, 16), of(0xff, 16), drawn(16), {15: 0x80}, append([]byte{5}, make([]byte, 15)...)}
	middles := []*big.Int{big.NewInt(1000), whole(64, 0), whole(127, 0), whole(128, -2000), number(drawn(16))}
	for more := int64(-200); more <= 200; more++ {
		x := whole(130, more)
		for _, middle := range middles {
			b := sumTo(x, middle)
			for _, s := range addends {
				key := keyOf([]byte{1}, make([]byte, 15), s)
				want := new(big.Int).Mod(x, prime())
				want.Add(want, addend(key))
				expect(t, key, b, low(want))
			}
		}
	}
}

// ends is a block that brings the sum behind b to x, if there is one.
func ends(key api.Key, b []byte, x *big.Int) ([]byte, bool) {
	n := new(big.Int).ModInverse(multiplier(key), prime())
	n.Mul(n, x).Sub(n, sumOf(key, b)).Mod(n, prime())
	own := n.Sub(n, whole(128, 0))
	if own.Sign() < 0 || own.Cmp(whole(128, 0)) >= 0 {
		return nil, false
	}
	tag := low(own)
	return tag[:], true
}

// P7.1: the same by multipliers that are drawn: sums that come to 0, to a little more, to a little less than the prime, and to the ends of the 128 bits, with addends of noughts and of ones.
func TestPrimeDrawn(t *testing.T) {
	draw := rand.New(rand.NewSource(130))
	found := 0
	for range 300 {
		var key api.Key
		draw.Read(key[:16])
		b := make([]byte, 16*draw.Intn(4))
		draw.Read(b)
		for _, power := range []uint{0, 128, 129} {
			for more := int64(-8); more <= 8; more++ {
				x := new(big.Int).Mod(whole(power, more-1), prime())
				block, ok := ends(key, b, x)
				if !ok {
					continue
				}
				found++
				text := slices.Concat(b, block)
				expect(t, key, text, low(x))
				full := keyOf(key[:16], of(0xff, 16))
				expect(t, full, text, low(new(big.Int).Sub(x, big.NewInt(1))))
			}
		}
	}
	if found < 1000 {
		t.Errorf("only %d such texts", found)
	}
}

// P7.1: sums with s that run over 2^128: what is above is let go.
func TestOver(t *testing.T) {
	for _, x := range []struct {
		text, addend []byte
		want         api.Tag
	}{
		{make([]byte, 16), of(0xff, 16), api.Tag(of(0xff, 16))},
		{append([]byte{1}, make([]byte, 15)...), of(0xff, 16), api.Tag{}},
		{of(0xff, 16), of(0xff, 16), api.Tag(append([]byte{0xfe}, of(0xff, 15)...))},
		{of(0xff, 16), append([]byte{1}, make([]byte, 15)...), api.Tag{}},
		{append(make([]byte, 15), 0x80), append(make([]byte, 15), 0x80), api.Tag{}},
		{append(make([]byte, 8), of(0xff, 8)...), append(make([]byte, 8), append([]byte{1}, make([]byte, 7)...)...), api.Tag{}},
		{nil, of(0xff, 16), api.Tag(of(0xff, 16))},
	} {
		expect(t, keyOf([]byte{1}, make([]byte, 15), x.addend), x.text, x.want)
	}
}

// P7.1: the greatest limbs, again and again: many blocks of ones by the greatest multiplier, asked behind each.
func TestGreatest(t *testing.T) {
	for _, key := range []api.Key{keyOf(of(0xff, 32)), keyOf(of(0xff, 16), make([]byte, 16))} {
		c := poly.New(key)
		for n := 16; n <= 16*300; n += 16 {
			c.Write(of(0xff, 16))
			if got, want := c.Tag(), codeOf(key, of(0xff, n)); got != want {
				t.Fatalf("%d ones: %x, not %x", n, got, want)
			}
		}
	}
}

// counts tells whether a bit of the multiplier's bytes counts, by the chapter's words.
func counts(byteAt, bit int) bool {
	switch byteAt {
	case 3, 7, 11, 15:
		return bit < 4
	case 4, 8, 12:
		return bit >= 2
	}
	return true
}

// P7.1: Clamp keeps each bit that counts, and no other one; alone, and among ones.
func TestClampBits(t *testing.T) {
	kept := 0
	for i := range 128 {
		key, want := api.Key{}, api.Tag{}
		key[i/8] = 1 << (i % 8)
		if counts(i/8, i%8) {
			want[i/8] = 1 << (i % 8)
			kept++
		}
		if got := poly.Clamp(key); got != want {
			t.Errorf("Clamp of bit %d: %x", i, got)
		}
		among := keyOf(of(0xff, 32))
		among[i/8] ^= 1 << (i % 8)
		want = api.Tag(bytesOf(t, "ffffff0ffcffff0ffcffff0ffcffff0f"))
		want[i/8] &^= 1 << (i % 8)
		if got := poly.Clamp(among); got != want {
			t.Errorf("Clamp of ones without bit %d: %x", i, got)
		}
	}
	if kept != 106 {
		t.Errorf("%d bits count", kept)
	}
}

// P7.1: the last 16 bytes count for nothing in Clamp; noughts, ones, the standard's key, and what is drawn.
func TestClamp(t *testing.T) {
	if poly.Clamp(api.Key{}) != (api.Tag{}) {
		t.Error("Clamp of noughts")
	}
	key := api.Key(bytesOf(t, "85d6be7857556d337f4452fe42d506a80103808afb0db2fd4abff6af4149f51b"))
	if got := poly.Clamp(key); hex.EncodeToString(got[:]) != "85d6be0854556d037c44520e40d50608" {
		t.Errorf("Clamp of the standard's key: %x", got)
	}
	for i := range 128 {
		other := key
		other[16+i/8] ^= 1 << (i % 8)
		if poly.Clamp(other) != poly.Clamp(key) {
			t.Errorf("bit %d of the last 16 bytes counts", i)
		}
	}
	for _, key := range keys() {
		if got := poly.Clamp(key); got != low(multiplier(key)) {
			t.Errorf("Clamp of %x: %x", key, got)
		}
	}
}

// P7.1: the bits that Clamp lets go count for nothing in a code, and clamped once more it is the same.
func TestClamped(t *testing.T) {
	for _, key := range keys() {
		r := poly.Clamp(key)
		clamped := keyOf(r[:], key[16:])
		if poly.Clamp(clamped) != r {
			t.Errorf("Clamp of Clamp of %x", key)
		}
		for _, b := range [][]byte{nil, {0}, drawn(16), drawn(17), drawn(1000)} {
			if poly.Mac(key, b) != poly.Mac(clamped, b) {
				t.Errorf("Mac of %x and %d bytes is another one of the clamped key", key, len(b))
			}
		}
	}
}

// P7.2, P7.3: two pieces, the first of every length about the first blocks' ends, and the second too.
func TestTwoPieces(t *testing.T) {
	for _, key := range keys()[:4] {
		for n := range 70 {
			b := drawn(n)
			want := codeOf(key, b)
			for cut := range n + 1 {
				if got := wrote(t, key, b[:cut], b[cut:]).Tag(); got != want {
					t.Errorf("%d bytes, cut at %d: %x, not %x", n, cut, got, want)
				}
			}
		}
	}
}

// P7.2, P7.3: pieces of one length, of every length about 16, Tag being asked between them, and nothing being written between them, too.
func TestPieces(t *testing.T) {
	key := keyOf(drawn(32))
	all := drawn(300)
	for size := 1; size <= 50; size++ {
		quiet, asked := poly.New(key), poly.New(key)
		for at := 0; at < len(all); at += size {
			piece := all[at:min(at+size, len(all))]
			for _, b := range [][]byte{nil, piece, {}} {
				if err := asked.Write(b); err != api.OK {
					t.Fatalf("Write of %d bytes: %d", len(b), err)
				}
			}
			quiet.Write(piece)
			if got, want := asked.Tag(), codeOf(key, all[:at+len(piece)]); got != want {
				t.Errorf("%d bytes in pieces of %d: %x, not %x", at+len(piece), size, got, want)
			}
		}
		if quiet.Tag() != poly.Mac(key, all) {
			t.Errorf("pieces of %d", size)
		}
	}
}

// P7.2, P7.3: pieces of lengths that are drawn, none among them, and long ones.
func TestPiecesDrawn(t *testing.T) {
	draw := rand.New(rand.NewSource(73))
	for range 300 {
		var key api.Key
		draw.Read(key[:])
		c := poly.New(key)
		var all []byte
		for range draw.Intn(30) {
			piece := make([]byte, []int{0, 1, 3, 15, 16, 17, 31, 32, 33, 200}[draw.Intn(10)])
			draw.Read(piece)
			c.Write(piece)
			all = append(all, piece...)
			if draw.Intn(3) == 0 && c.Tag() != codeOf(key, all) {
				t.Errorf("%d bytes, asked between", len(all))
			}
		}
		if c.Tag() != poly.Mac(key, all) || c.Tag() != codeOf(key, all) {
			t.Errorf("%d bytes in pieces", len(all))
		}
	}
}

// P7.2: Tag, asked again, is the same; the bytes stay, and more may be written.
func TestTagStays(t *testing.T) {
	for _, key := range keys() {
		for n := range 50 {
			c := wrote(t, key, drawn(n))
			want := codeOf(key, drawn(n))
			for range 3 {
				if got := c.Tag(); got != want {
					t.Errorf("%d bytes, asked again: %x, not %x", n, got, want)
				}
			}
			c.Write(drawn(21))
			if got := c.Tag(); got != codeOf(key, slices.Concat(drawn(n), drawn(21))) {
				t.Errorf("%d bytes, and 21 behind Tag: %x", n, got)
			}
		}
	}
}

// P7.2, R3: Write changes neither b nor the room behind it, and keeps neither: both may be changed afterwards.
func TestWriteKeepsNothing(t *testing.T) {
	key := keyOf(drawn(32))
	for _, ahead := range []int{0, 1, 15} {
		for n := range 70 {
			room := drawn(n + 64)
			was := bytes.Clone(room)
			c := wrote(t, key, drawn(ahead), room[32:32+n])
			c.Tag()
			poly.Mac(key, room[32:32+n])
			if !bytes.Equal(room, was) {
				t.Errorf("%d bytes behind %d: what is handed in is changed", n, ahead)
			}
			clear(room)
			all := slices.Concat(drawn(ahead), was[32:32+n])
			if c.Tag() != codeOf(key, all) {
				t.Errorf("%d bytes behind %d: the code hangs on what is handed in", n, ahead)
			}
			c.Write(drawn(5))
			if c.Tag() != codeOf(key, append(all, drawn(5)...)) {
				t.Errorf("%d bytes behind %d, and more: the code hangs on what is handed in", n, ahead)
			}
		}
	}
}

// P7.2, R3: what Tag and Clamp answer is a value: whoever changes it changes no later answer. Codes know nothing of each other.
func TestApart(t *testing.T) {
	one, other := keyOf(drawn(32)), keyOf(of(0xff, 32))
	c, d := poly.New(one), poly.New(other)
	for n := range 40 {
		c.Write(drawn(n))
		d.Write(of(byte(n), 3))
	}
	tag := c.Tag()
	tag[0]++
	var ofC, ofD []byte
	for n := range 40 {
		ofC = append(ofC, drawn(n)...)
		ofD = append(ofD, of(byte(n), 3)...)
	}
	if c.Tag() != codeOf(one, ofC) || d.Tag() != codeOf(other, ofD) {
		t.Error("two Codes are not apart")
	}
	if poly.New(one).Tag() != poly.Mac(one, nil) {
		t.Error("a new Code has bytes")
	}
}

// P7.2, R4: Write to a nil Code, whatever is written, and Tag of it.
func TestNil(t *testing.T) {
	var none *poly.Code
	for _, b := range [][]byte{nil, {}, {1}, drawn(16), drawn(100)} {
		if err := none.Write(b); err != api.ErrNil {
			t.Errorf("Write of %d bytes to nil: %d", len(b), err)
		}
		if none.Tag() != (api.Tag{}) {
			t.Error("Tag of nil is not noughts")
		}
	}
}

// P7.2: New's answer is there, of whatever key, and is a Code of no bytes.
func TestNew(t *testing.T) {
	for _, key := range keys() {
		if c := wrote(t, key); c.Tag() != low(addend(key)) {
			t.Errorf("a new Code by %x: %x", key, c.Tag())
		}
	}
}

// P7.3: no bytes, as nil, as none, in no pieces and in pieces of none: the addend.
func TestNoBytes(t *testing.T) {
	for _, key := range keys() {
		want := api.Tag(key[16:])
		for _, b := range [][]byte{nil, {}, drawn(9)[9:]} {
			expect(t, key, b, want)
			if got := wrote(t, key, b, nil, b, []byte{}).Tag(); got != want {
				t.Errorf("%x: pieces of none: %x", key, got)
			}
		}
	}
}

// P7.3: by a multiplier 0, and by one of which Clamp leaves nothing, the code of whatever bytes is the addend.
func TestNoMultiplier(t *testing.T) {
	nothing := bytesOf(t, "000000f0030000f0030000f0030000f0")
	for _, first := range [][]byte{make([]byte, 16), nothing} {
		for _, s := range [][]byte{make([]byte, 16), of(0xff, 16), drawn(16)} {
			key := keyOf(first, s)
			if poly.Clamp(key) != (api.Tag{}) {
				t.Fatalf("Clamp of %x", key)
			}
			for _, b := range texts() {
				expect(t, key, b, api.Tag(s))
			}
		}
	}
}
