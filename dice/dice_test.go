package dice_test

import (
	"bytes"
	"crypto/sha256"
	"encoding/hex"
	"math"
	"math/rand"
	"slices"
	"strings"
	"testing"

	"hollowtree/api"
	"hollowtree/chacha"
	"hollowtree/dice"
)

// drawn are n bytes, the same ones in each run.
func drawn(n int) []byte {
	b := make([]byte, n)
	rand.New(rand.NewSource(int64(n))).Read(b)
	return b
}

// seeds are of no bytes, of nil, of one byte, of those about a block's and a hash's end, and of many.
func seeds() [][]byte {
	out := [][]byte{nil, {}, {0}, {1}, {0xff}, []byte("x"), {0, 0}, make([]byte, 32)}
	for _, n := range []int{2, 31, 32, 33, 55, 56, 63, 64, 65, 1000, 70001} {
		out = append(out, drawn(n))
	}
	return out
}

// streamOf are the first n bytes of a seed's stream, by the chapter's words.
func streamOf(seed []byte, n int) []byte {
	return chacha.Xor(sha256.Sum256(seed), 0, api.Nonce{}, make([]byte, n))
}

// model draws by the chapter's words from a stream that was made at once.
type model struct {
	stream []byte
	taken  int
}

func modelOf(seed []byte, n int) *model { return &model{stream: streamOf(seed, n)} }

func (m *model) bytes(n int) []byte {
	m.taken += n
	return m.stream[m.taken-n : m.taken]
}

// word is the next number of four bytes, the lowest first.
func (m *model) word() uint64 {
	b := m.bytes(4)
	return uint64(b[0]) + 256*uint64(b[1]) + 65536*uint64(b[2]) + 16777216*uint64(b[3])
}

// multiple is the greatest multiple of n that is at most 2^32.
func multiple(n int) uint64 { return (1 << 32) / uint64(n) * uint64(n) }

func (m *model) below(n int) int {
	for {
		if x := m.word(); x < multiple(n) {
			return int(x % uint64(n))
		}
	}
}

func (m *model) order(n int) []int {
	var out []int
	for i := range n {
		out = append(out, i)
	}
	for i := n - 1; i >= 1; i-- {
		at := m.below(i + 1)
		here, there := out[i], out[at]
		out[i], out[at] = there, here
	}
	return out
}

// fork is the seed of a fork.
func (m *model) fork(label string) []byte { return slices.Concat(m.bytes(32), []byte(label)) }

// The calls, with the test's end where one is answered with an error.
func bytesOf(t *testing.T, d *dice.Dice, n int) []byte {
	t.Helper()
	b, err := d.Bytes(n)
	if err != api.OK {
		t.Fatalf("Bytes(%d): %d", n, err)
	}
	return b
}

func below(t *testing.T, d *dice.Dice, n int) int {
	t.Helper()
	x, err := d.Below(n)
	if err != api.OK {
		t.Fatalf("Below(%d): %d", n, err)
	}
	return x
}

func order(t *testing.T, d *dice.Dice, n int) []int {
	t.Helper()
	list, err := d.Order(n)
	if err != api.OK {
		t.Fatalf("Order(%d): %d", n, err)
	}
	return list
}

func key(t *testing.T, d *dice.Dice) api.Key {
	t.Helper()
	k, err := d.Key()
	if err != api.OK {
		t.Fatalf("Key: %d", err)
	}
	return k
}

func fork(t *testing.T, d *dice.Dice, label string) *dice.Dice {
	t.Helper()
	f, err := d.Fork(label)
	if err != api.OK || f == nil {
		t.Fatalf("Fork(%q): %v %d", label, f, err)
	}
	return f
}

// took holds Taken against n.
func took(t *testing.T, d *dice.Dice, n int) {
	t.Helper()
	if got := d.Taken(); got != n {
		t.Errorf("Taken: %d, not %d", got, n)
	}
}

// P9.1: the chapter's examples.
func TestExamples(t *testing.T) {
	d := dice.New([]byte{})
	for range 2 {
		if x := below(t, d, 1); x != 0 {
			t.Errorf("Below(1): %d", x)
		}
	}
	took(t, d, 8)
	if b := bytesOf(t, d, 0); len(b) != 0 {
		t.Errorf("Bytes(0): %x", b)
	}
	if b, err := d.Bytes(-1); b != nil || err != api.ErrArg {
		t.Errorf("Bytes(-1): %x %d", b, err)
	}
	if x, err := d.Below(0); x != 0 || err != api.ErrArg {
		t.Errorf("Below(0): %d %d", x, err)
	}
	if list := order(t, d, 0); len(list) != 0 {
		t.Errorf("Order(0): %v", list)
	}
	took(t, d, 8)
	for _, seed := range seeds() {
		one, other := order(t, dice.New(seed), 5), order(t, dice.New(seed), 5)
		if !slices.Equal(one, other) {
			t.Errorf("Order(5) of one seed: %v, %v", one, other)
		}
	}
}

// P9.1: draws of all kinds, one behind the other, in numbers that another program made by the chapter's words.
func TestPinned(t *testing.T) {
	asked := []int{1, 2, 3, 10, 1000, 1<<30 + 1, 1431655766, 1<<31 - 1}
	for _, x := range []struct {
		seed, first   string
		numbers       []int
		taken         int
		order         []int
		key           string
		fork          string
		forked        []int
		behind        string
		takenInTheEnd int
	}{{
		"", "98c37c1a7542eb45daa0d48d9c1adee0f41178a94d590b96ae0f9595e1c3008fbd116fd1892c0998d85a974f5b261248ea8e891e6ce61d5790a1a49be7c5440e02dd2ff0abcd",
		[]int{0, 1, 1, 1, 694, 698125002, 806236659, 1453214798}, 106,
		[]int{8, 5, 4, 7, 3, 1, 2, 0, 6, 9},
		"6d34e5abb6369e1800f9da8f63909f869d92edca517412de808ea59c3cf397a7",
		"ed48070a6b77c5ed9ebf1fd7587bf048", []int{0, 1, 3, 2, 4},
		"5f87870a2e9c291c", 214,
	}, {
		"x", "775c4a2778d553304a206632fd419878aaa27cbcd3109ee13f47c8fdcc42fdbf92f79a254b9dc2137c26121b4b9e69a450ecf84d5b5722df5d8c36d2c8d3c5f80068126b8e4b",
		[]int{0, 0, 0, 0, 308, 128103849, 174915746, 1099350173}, 102,
		[]int{5, 0, 9, 8, 2, 6, 3, 1, 4, 7},
		"0cbed5a96ee8750dc02baed96f082d649f1e82006ee178234b0d55494e0e8a4c",
		"fe572e2db400f9d24e5965b5c82c97d1", []int{1, 2, 3, 0, 4},
		"ee0c5fad423dedd4", 210,
	}, {
		"hollow tree", "2db7399822dde8a173962e1e80506d4de6d4186f20ad98aa74bd59152d461bcc2ab2ed1c6a10c3e6e80157c5ec03b029e994911b06b6fcc05ae90f539b8b3ed7c4bb3859d683",
		[]int{0, 0, 1, 9, 476, 921280767, 296983836, 1948850202}, 102,
		[]int{5, 7, 8, 1, 9, 0, 2, 4, 6, 3},
		"d6deaa4d17abb8b093d1aaf06ab6bccf954f8458e75d968d7c95cca411c80039",
		"848b8915883c92d09082056fb9e5e789", []int{3, 1, 2, 0, 4},
		"a2b3ec7da5bb4958", 210,
	}} {
		d := dice.New([]byte(x.seed))
		if got := hex.EncodeToString(bytesOf(t, d, 70)); got != x.first {
			t.Errorf("%q: Bytes(70): %s", x.seed, got)
		}
		for i, n := range asked {
			if got := below(t, d, n); got != x.numbers[i] {
				t.Errorf("%q: Below(%d): %d", x.seed, n, got)
			}
		}
		took(t, d, x.taken)
		if got := order(t, d, 10); !slices.Equal(got, x.order) {
			t.Errorf("%q: Order(10): %v", x.seed, got)
		}
		if got := key(t, d); hex.EncodeToString(got[:]) != x.key {
			t.Errorf("%q: Key: %x", x.seed, got)
		}
		f := fork(t, d, "läbel")
		if got := hex.EncodeToString(bytesOf(t, f, 16)); got != x.fork {
			t.Errorf("%q: Bytes(16) of the fork: %s", x.seed, got)
		}
		if got := order(t, f, 5); !slices.Equal(got, x.forked) {
			t.Errorf("%q: Order(5) of the fork: %v", x.seed, got)
		}
		took(t, f, 32)
		if got := hex.EncodeToString(bytesOf(t, d, 8)); got != x.behind {
			t.Errorf("%q: Bytes(8) behind the fork: %s", x.seed, got)
		}
		took(t, d, x.takenInTheEnd)
	}
}

// P9.1: New of each seed has taken nothing, and what it tells is chacha's stream of the seed's hash, over more than a block.
func TestStream(t *testing.T) {
	for _, seed := range seeds() {
		took(t, dice.New(seed), 0)
		want := streamOf(seed, 1<<16)
		for _, n := range []int{0, 1, 2, 31, 32, 33, 63, 64, 65, 127, 128, 129, 1000, 1<<16 - 1, 1 << 16} {
			d := dice.New(seed)
			if got := bytesOf(t, d, n); !bytes.Equal(got, want[:n]) {
				t.Errorf("Bytes(%d) of a seed of %d bytes", n, len(seed))
			}
			took(t, d, n)
		}
	}
}

// P9.1: unlike seeds have unlike streams; nil and no bytes are one seed.
func TestSeedsDiffer(t *testing.T) {
	seen := map[string]int{}
	for _, seed := range seeds() {
		seen[string(bytesOf(t, dice.New(seed), 64))]++
	}
	if len(seen) != len(seeds())-1 {
		t.Errorf("%d streams of %d seeds", len(seen), len(seeds()))
	}
	if !bytes.Equal(bytesOf(t, dice.New(nil), 100), bytesOf(t, dice.New([]byte{}), 100)) {
		t.Errorf("nil and no bytes differ")
	}
}

// P9.1, P9.2: Bytes from each place of the first two blocks on, of each length up to two blocks.
func TestMiddle(t *testing.T) {
	want := streamOf([]byte("middle"), 300)
	for from := range 130 {
		for n := range 131 {
			d := dice.New([]byte("middle"))
			one, other := bytesOf(t, d, from), bytesOf(t, d, n)
			if !bytes.Equal(one, want[:from]) || !bytes.Equal(other, want[from:from+n]) {
				t.Errorf("Bytes(%d), Bytes(%d)", from, n)
			}
			took(t, d, from+n)
		}
	}
}

// P9.1: the stream goes on behind 2^16 bytes, and behind 2^16 blocks.
func TestFar(t *testing.T) {
	d := dice.New([]byte("far"))
	bytesOf(t, d, 61)
	want := streamOf([]byte("far"), 66<<16)
	for i := range 65 {
		at := 61 + i<<16
		if got := bytesOf(t, d, 1<<16); !bytes.Equal(got, want[at:at+1<<16]) {
			t.Fatalf("Bytes from %d on", at)
		}
	}
	took(t, d, 61+65<<16)
	m := &model{stream: want, taken: 61 + 65<<16}
	if got := below(t, d, 1<<31-1); got != m.below(1<<31-1) {
		t.Errorf("Below far in the stream: %d", got)
	}
}

// P9.1: Bytes at its edges and of what it is not given: behind each kind of draw the next n bytes, or ErrArg and nothing taken.
func TestBytesEdges(t *testing.T) {
	ahead := map[string]func(*dice.Dice){
		"nothing": func(*dice.Dice) {},
		"Bytes":   func(d *dice.Dice) { bytesOf(t, d, 77) },
		"Below":   func(d *dice.Dice) { below(t, d, 3) },
		"Order":   func(d *dice.Dice) { order(t, d, 20) },
		"Key":     func(d *dice.Dice) { key(t, d) },
		"Fork":    func(d *dice.Dice) { fork(t, d, "f") },
	}
	want := streamOf([]byte("edges"), 1<<17)
	for what, draw := range ahead {
		for _, n := range []int{0, 1, 63, 64, 65, 1<<16 - 1, 1 << 16} {
			d := dice.New([]byte("edges"))
			draw(d)
			from := d.Taken()
			if got := bytesOf(t, d, n); !bytes.Equal(got, want[from:from+n]) {
				t.Errorf("Bytes(%d) behind %s", n, what)
			}
			took(t, d, from+n)
		}
		for _, n := range []int{-1, -2, -64, -1 << 16, math.MinInt32, math.MinInt, 1<<16 + 1, 1<<16 + 2, 1 << 17, math.MaxInt32, 1 << 32, 1<<32 + 1, math.MaxInt - 1, math.MaxInt} {
			d := dice.New([]byte("edges"))
			draw(d)
			from := d.Taken()
			if got, err := d.Bytes(n); got != nil || err != api.ErrArg {
				t.Errorf("Bytes(%d) behind %s: %d bytes, %d", n, what, len(got), err)
			}
			took(t, d, from)
			if got := bytesOf(t, d, 9); !bytes.Equal(got, want[from:from+9]) {
				t.Errorf("Bytes(9) behind %s and Bytes(%d)", what, n)
			}
		}
	}
}

// P9.2: bytes in parts are the bytes at once, in whatever parts.
func TestParts(t *testing.T) {
	draw := rand.New(rand.NewSource(9))
	for _, seed := range seeds() {
		want := bytesOf(t, dice.New(seed), 5000)
		for _, most := range []int{1, 3, 64, 65, 200} {
			d := dice.New(seed)
			var got []byte
			for len(got) < len(want) {
				n := draw.Intn(min(most, len(want)-len(got)) + 1)
				got = append(got, bytesOf(t, d, n)...)
				took(t, d, len(got))
			}
			if !bytes.Equal(got, want) {
				t.Errorf("a seed of %d bytes, in parts of at most %d", len(seed), most)
			}
		}
	}
}

// P9.1: Key is the next 32 bytes, at each place of a block.
func TestKey(t *testing.T) {
	want := streamOf([]byte("key"), 400)
	for from := range 200 {
		d := dice.New([]byte("key"))
		bytesOf(t, d, from)
		one, other := key(t, d), key(t, d)
		if !bytes.Equal(slices.Concat(one[:], other[:]), want[from:from+64]) {
			t.Errorf("Key from %d on: %x, %x", from, one, other)
		}
		took(t, d, from+64)
	}
}

// labels are of no bytes, of letters, of bytes that are no letters, and of many.
func labels() []string {
	return []string{"", "a", "b", "label", "LABEL", "\x00", "\x00\x00", "\xff", "\xfe\xff\x80", "läbel €", "a\x00", " ", "\n", strings.Repeat("long", 5000)}
}

// P9.1: a fork is Dice of the next 32 bytes and the label, having taken nothing; the parent has taken 32.
func TestFork(t *testing.T) {
	for _, seed := range seeds() {
		for _, label := range labels() {
			for _, from := range []int{0, 1, 32, 33, 63, 64, 100} {
				d, m := dice.New(seed), modelOf(seed, 200)
				bytesOf(t, d, from)
				m.bytes(from)
				f := fork(t, d, label)
				took(t, d, from+32)
				took(t, f, 0)
				forked := m.fork(label)
				if got := bytesOf(t, f, 100); !bytes.Equal(got, streamOf(forked, 100)) {
					t.Errorf("Fork(%.20q) from %d on", label, from)
				}
				plain := dice.New(forked)
				bytesOf(t, plain, 100)
				if !slices.Equal(order(t, f, 9), order(t, plain, 9)) || key(t, f) != key(t, plain) {
					t.Errorf("Fork(%.20q) from %d on is not Dice of its seed", label, from)
				}
				if got := bytesOf(t, d, 30); !bytes.Equal(got, m.bytes(30)) {
					t.Errorf("the parent behind Fork(%.20q) from %d on", label, from)
				}
			}
		}
	}
}

// P9.1: forks by unlike labels, and one behind the other by one label, are unlike; forks of forks too.
func TestForksDiffer(t *testing.T) {
	seen := map[string]bool{}
	look := func(what string, d *dice.Dice) {
		first := string(bytesOf(t, d, 32))
		if seen[first] {
			t.Errorf("%.20q: a stream that is there already", what)
		}
		seen[first] = true
	}
	look("the seed", dice.New([]byte("forks")))
	for _, label := range labels() {
		look(label, fork(t, dice.New([]byte("forks")), label))
	}
	d := dice.New([]byte("forks"))
	fork(t, d, "a")
	f := fork(t, d, "a")
	look("the second fork by a", f)
	look("a fork's fork", fork(t, f, "a"))
}

// P9.2: neither's draws change the other's, in whatever order they are asked.
func TestForkApart(t *testing.T) {
	asks := rand.New(rand.NewSource(92))
	for range 50 {
		parent := dice.New([]byte("apart"))
		bytesOf(t, parent, asks.Intn(70))
		from := parent.Taken()
		child := fork(t, parent, "child")
		m := modelOf([]byte("apart"), 20000)
		m.bytes(from)
		c := modelOf(m.fork("child"), 20000)
		for range 40 {
			d, by := parent, m
			if asks.Intn(2) == 0 {
				d, by = child, c
			}
			once(t, d, by, asks)
		}
		took(t, parent, m.taken)
		took(t, child, c.taken)
	}
}
