package chacha_test

import (
	"bytes"
	"encoding/binary"
	"encoding/hex"
	"math"
	"math/bits"
	"math/rand"
	"slices"
	"testing"

	"hollowtree/api"
	"hollowtree/chacha"
)

// drawn are n bytes, the same ones in each run.
func drawn(n int) []byte {
	b := make([]byte, n)
	rand.New(rand.NewSource(int64(n))).Read(b)
	return b
}

// bytesOf are the bytes that the digits stand for.
func bytesOf(t *testing.T, digits string) []byte {
	t.Helper()
	b, err := hex.DecodeString(digits)
	if err != nil {
		t.Fatal(err)
	}
	return b
}

// keyOf and nonceOf are made of bytes, each of which is step more than the one ahead of it.
func keyOf(from, step byte) api.Key {
	var k api.Key
	for i := range k {
		k[i] = from + byte(i)*step
	}
	return k
}

func nonceOf(from, step byte) api.Nonce {
	var n api.Nonce
	for i := range n {
		n[i] = from + byte(i)*step
	}
	return n
}

// pairs are keys and nonces of noughts, of ones and of unlike bytes.
func pairs() []struct {
	key   api.Key
	nonce api.Nonce
} {
	return []struct {
		key   api.Key
		nonce api.Nonce
	}{
		{api.Key{}, api.Nonce{}},
		{keyOf(0xff, 0), nonceOf(0xff, 0)},
		{keyOf(3, 7), nonceOf(200, 29)},
	}
}

// lengths are those about the ends of the first blocks, and some of many blocks.
func lengths() []int {
	return []int{0, 1, 2, 15, 16, 17, 63, 64, 65, 127, 128, 129, 191, 192, 193, 1000, 4096, 70001}
}

// turned is a row whose words have gone n places to the left.
func turned(r [4]uint32, n int) [4]uint32 {
	return [4]uint32{r[n%4], r[(n+1)%4], r[(n+2)%4], r[(n+3)%4]}
}

// blockOf is the block by another reckoning: by rows of four words, all columns of which go at once, and which are turned for the diagonals.
func blockOf(key api.Key, counter uint32, nonce api.Nonce) [64]byte {
	var first, m [4][4]uint32
	all := binary.LittleEndian.AppendUint32(slices.Concat([]byte("expand 32-byte k"), key[:]), counter)
	all = append(all, nonce[:]...)
	for i := range 16 {
		first[i/4][i%4] = binary.LittleEndian.Uint32(all[4*i:])
	}
	m = first
	step := func(to, with, xored, by int) {
		for i := range 4 {
			m[to][i] += m[with][i]
			m[xored][i] = bits.RotateLeft32(m[xored][i]^m[to][i], by)
		}
	}
	for round := range 20 {
		step(0, 1, 3, 16)
		step(2, 3, 1, 12)
		step(0, 1, 3, 8)
		step(2, 3, 1, 7)
		shift := 1
		if round%2 == 1 {
			shift = 3
		}
		m[1], m[2], m[3] = turned(m[1], shift), turned(m[2], 2*shift), turned(m[3], 3*shift)
	}
	var out [64]byte
	for i := range 16 {
		binary.LittleEndian.PutUint32(out[4*i:], m[i/4][i%4]+first[i/4][i%4])
	}
	return out
}

// streamOf are the first n bytes of the stream from a counter on, by that reckoning.
func streamOf(key api.Key, counter uint32, nonce api.Nonce, n int) []byte {
	var out []byte
	for ; len(out) < n; counter++ {
		block := blockOf(key, counter, nonce)
		out = append(out, block[:]...)
	}
	return out[:n]
}

// xorOf is b xored with the stream from a counter on, by that reckoning.
func xorOf(key api.Key, counter uint32, nonce api.Nonce, b []byte) []byte {
	out := streamOf(key, counter, nonce, len(b))
	for i := range out {
		out[i] ^= b[i]
	}
	return out
}

// P6.1: the chapter's examples, and RFC 8439's (2.3.2 and A.1), whole.
func TestBlockExamples(t *testing.T) {
	for _, x := range []struct {
		key     api.Key
		counter uint32
		nonce   api.Nonce
		want    string
	}{
		{keyOf(0, 1), 1, api.Nonce{3: 9, 7: 0x4a}, "10f1e7e4d13b5915500fdd1fa32071c4c7d1f4c733c068030422aa9ac3d46c4ed2826446079faa0914c2d705d98b02a2b5129cd1de164eb9cbd083e8a2503c4e"},
		{api.Key{}, 0, api.Nonce{}, "76b8e0ada0f13d90405d6ae55386bd28bdd219b8a08ded1aa836efcc8b770dc7da41597c5157488d7724e03fb8d84a376a43b8f41518a11cc387b669b2ee6586"},
		{api.Key{}, 1, api.Nonce{}, "9f07e7be5551387a98ba977c732d080dcb0f29a048e3656912c6533e32ee7aed29b721769ce64e43d57133b074d839d531ed1f28510afb45ace10a1f4b794d6f"},
		{api.Key{31: 1}, 1, api.Nonce{}, "3aeb5224ecf849929b9d828db1ced4dd832025e8018b8160b82284f3c949aa5a8eca00bbb4a73bdad192b5c42f73f2fd4e273644c8b36125a64addeb006c13a0"},
		{api.Key{1: 0xff}, 2, api.Nonce{}, "72d54dfbf12ec44b362692df94137f328fea8da73990265ec1bbbea1ae9af0ca13b25aa26cb4a648cb9b9d1be65b2c0924a66c54d545ec1b7374f4872e99f096"},
		{api.Key{}, 0, api.Nonce{11: 2}, "c2c64d378cd536374ae204b9ef933fcd1a8b2288b3dfa49672ab765b54ee27c78a970e0e955c14f3a88e741b97c286f75f8fc299e8148362fa198a39531bed6d"},
	} {
		if got := chacha.Block(x.key, x.counter, x.nonce); hex.EncodeToString(got[:]) != x.want {
			t.Errorf("Block of %x, %d, %x: %x", x.key, x.counter, x.nonce, got)
		}
	}
}

// P6.1: the counters at the edges, of keys and nonces of noughts, of ones and of unlike bytes, in bytes that another program made.
func TestBlockEdges(t *testing.T) {
	counters := []uint32{0, 1, 1 << 31, 1<<32 - 1}
	want := [][]string{{
		"76b8e0ada0f13d90405d6ae55386bd28bdd219b8a08ded1aa836efcc8b770dc7da41597c5157488d7724e03fb8d84a376a43b8f41518a11cc387b669b2ee6586",
		"9f07e7be5551387a98ba977c732d080dcb0f29a048e3656912c6533e32ee7aed29b721769ce64e43d57133b074d839d531ed1f28510afb45ace10a1f4b794d6f",
		"7a73bf222d4c436578ea504cf5cc10c51e0c4c80acdc5febcfeb046e5f3616a3d7ec4e3c0cc9c6f4c81a286439c8376d0416488b50f5d2f2812668bdb4f696e1",
		"ace4cd09e294d1912d4ad205d06f95d9c2f2bfcf453e8753f128765b62215f4d92c74f2f626c6a640c0b1284d839ec81f1696281dafc3e684593937023b58b1d",
	}, {
		"d6e63495eafed7fc3bf8e7c419fa77be8234a6a49df517ebab06c8f65d9f7a17d3a64d4b97c911e6995b65c79336220cb63b703e25d3d45f5fee90a37bbe0535",
		"dd27403cec1ebe4296d37d313887a4d6a072251f72443b65d214aba1075c6acb273f4254dadef8fa97521fbfa2ab11430132caedd34aecc26ce09b8dd1facadd",
		"cc0f55f09878471bdf93880d15edbb04166e4f50e86c52b0f8ca39a27e3889ec123b29d24fe033c08a003aaa9d74e2204f85e182526d369a66b84e9e95a94e1a",
		"d72b21cfa4b6b0c41d61f62b8a11159c6a4f63bc56c2035796c7ad37811121bbec56d54a530f3a933dd28a50feb23bfaf64f405be985f3718bdf4683e96be749",
	}, {
		"da7ffcb1ad9d238178a45dedfa7cd13b597c126ff437a3b277ab6843843d64b2dbe049744b02a2fe6ba3cdfb8870ae789bf3428411cda705ad6393dc04fd1080",
		"307b26a932f4e87e3b0be4f9025e40eaf1f6d1d28cd408631c57bc568dae1151c8b4efa65bf98b9008d0ebf319814cad05d358cdb2be8f82d75c14398994d6b9",
		"cd46ef7c1b044d1efb671fd0c685261cc69e15808e8fc40e0e8ada4508bf51b80cdb42acea485f0d13488ee410548b4863acc465a7cfef56c19907240dd27a41",
		"b3f7f1c66f4237bab22b5ad250bb748807576f60ad485d8cf1d8444601f8d5e6b1fc8b357931d0e8a0ba44b54547a1db2287ae198d8cf0ed0c283bf7d38013be",
	}}
	for i, p := range pairs() {
		for j, counter := range counters {
			if got := chacha.Block(p.key, counter, p.nonce); hex.EncodeToString(got[:]) != want[i][j] {
				t.Errorf("Block of %x, %d, %x: %x", p.key, counter, p.nonce, got)
			}
		}
	}
}

// P6.1: each bit of the key, of the counter and of the nonce counts, and goes where it belongs.
func TestBlockBits(t *testing.T) {
	for _, p := range pairs() {
		seen := map[[64]byte]bool{}
		look := func(key api.Key, counter uint32, nonce api.Nonce) {
			got := chacha.Block(key, counter, nonce)
			if got != blockOf(key, counter, nonce) {
				t.Errorf("Block of %x, %d, %x: %x", key, counter, nonce, got)
			}
			if seen[got] {
				t.Errorf("Block of %x, %d, %x is there already", key, counter, nonce)
			}
			seen[got] = true
		}
		look(p.key, 5, p.nonce)
		for i := range 256 {
			key := p.key
			key[i/8] ^= 1 << (i % 8)
			look(key, 5, p.nonce)
		}
		for i := range 32 {
			look(p.key, 5^1<<i, p.nonce)
		}
		for i := range 96 {
			nonce := p.nonce
			nonce[i/8] ^= 1 << (i % 8)
			look(p.key, 5, nonce)
		}
	}
}

// P6.1, R5: blocks of what is drawn against the other reckoning; the same once more.
func TestBlock(t *testing.T) {
	draw := rand.New(rand.NewSource(6))
	for range 500 {
		var key api.Key
		var nonce api.Nonce
		draw.Read(key[:])
		draw.Read(nonce[:])
		counter := draw.Uint32()
		want := blockOf(key, counter, nonce)
		if got := chacha.Block(key, counter, nonce); got != want || chacha.Block(key, counter, nonce) != want {
			t.Errorf("Block of %x, %d, %x: %x", key, counter, nonce, got)
		}
	}
}

// P6.2: RFC 8439's texts (2.4.2 and A.2).
func TestXorExamples(t *testing.T) {
	long := `Any submission to the IETF intended by the Contributor for publication as all or part of an IETF Internet-Draft or RFC and any statement made within the context of an IETF activity is considered an "IETF Contribution". Such statements include oral statements in IETF sessions, as well as written and electronic communications made at any time or place, which are addressed to`
	for _, x := range []struct {
		key     api.Key
		counter uint32
		nonce   api.Nonce
		text    string
		want    string
	}{
		{keyOf(0, 1), 1, api.Nonce{7: 0x4a}, "Ladies and Gentlemen of the class of '99: If I could offer you only one tip for the future, sunscreen would be it.",
			"6e2e359a2568f98041ba0728dd0d6981e97e7aec1d4360c20a27afccfd9fae0bf91b65c5524733ab8f593dabcd62b3571639d624e65152ab8f530c359f0861d807ca0dbf500d6a6156a38e088a22b65e52bc514d16ccf806818ce91ab77937365af90bbf74a35be6b40b8eedf2785e42874d"},
		{api.Key{}, 0, api.Nonce{}, string(make([]byte, 64)),
			"76b8e0ada0f13d90405d6ae55386bd28bdd219b8a08ded1aa836efcc8b770dc7da41597c5157488d7724e03fb8d84a376a43b8f41518a11cc387b669b2ee6586"},
		{api.Key{31: 1}, 1, api.Nonce{11: 2}, long,
			"a3fbf07df3fa2fde4f376ca23e82737041605d9f4f4f57bd8cff2c1d4b7955ec2a97948bd3722915c8f3d337f7d370050e9e96d647b7c39f56e031ca5eb6250d4042e02785ececfa4b4bb5e8ead0440e20b6e8db09d881a7c6132f420e52795042bdfa7773d8a9051447b3291ce1411c680465552aa6c405b7764d5e87bea85ad00f8449ed8f72d0d662ab052691ca66424bc86d2df80ea41f43abf937d3259dc4b2d0dfb48a6c9139ddd7f76966e928e635553ba76c5c879d7b35d49eb2e62b0871cdac638939e25e8a1e0ef9d5280fa8ca328b351c3c765989cbcf3daa8b6ccc3aaf9f3979c92b3720fc88dc95ed84a1be059c6499b9fda236e7e818b04b0bc39c1e876b193bfe5569753f88128cc08aaa9b63d1a16f80ef2554d7189c411f5869ca52c5b83fa36ff216b9c1d30062bebcfd2dc5bce0911934fda79a86f6e698ced759c3ff9b6477338f3da4f9cd8514ea9982ccafb341b2384dd902f3d1ab7ac61dd29c6f21ba5b862f3730e37cfdc4fd806c22f221"},
		{api.Key(bytesOf(t, "1c9240a5eb55d38af333888604f6b5f0473917c1402b80099dca5cbc207075c0")), 42, api.Nonce{11: 2}, "'Twas brillig, and the slithy toves\nDid gyre and gimble in the wabe:\nAll mimsy were the borogoves,\nAnd the mome raths outgrabe.",
			"62e6347f95ed87a45ffae7426f27a1df5fb69110044c0d73118effa95b01e5cf166d3df2d721caf9b21e5fb14c616871fd84c54f9d65b283196c7fe4f60553ebf39c6402c42234e32a356b3e764312a61a5532055716ead6962568f87d3f3f7704c6a8d1bcd1bf4d50d6154b6da731b187b58dfd728afa36757a797ac188d1"},
	} {
		got := chacha.Xor(x.key, x.counter, x.nonce, []byte(x.text))
		if hex.EncodeToString(got) != x.want {
			t.Errorf("Xor of %.20q: %x", x.text, got)
		}
	}
}

// P6.2, P6.4: Xor of no bytes, of those about a block's end, and of many more, from counters that stay below 2^32 and that run over it within the text; Xor of Xor is b; Xor of noughts is the stream.
func TestXor(t *testing.T) {
	for _, p := range pairs() {
		for _, counter := range []uint32{0, 1, 2, 1<<31 - 1, 1 << 31, 1<<32 - 3, 1<<32 - 2, 1<<32 - 1} {
			for _, n := range lengths() {
				b := drawn(n)
				got := chacha.Xor(p.key, counter, p.nonce, b)
				if len(got) != n || !bytes.Equal(got, xorOf(p.key, counter, p.nonce, b)) {
					t.Errorf("Xor of %d bytes from %d on", n, counter)
				}
				if back := chacha.Xor(p.key, counter, p.nonce, got); !bytes.Equal(back, b) {
					t.Errorf("Xor of Xor of %d bytes from %d on", n, counter)
				}
				if s := chacha.Xor(p.key, counter, p.nonce, make([]byte, n)); !bytes.Equal(s, streamOf(p.key, counter, p.nonce, n)) {
					t.Errorf("Xor of %d noughts from %d on", n, counter)
				}
			}
		}
	}
}

// P6.2: behind the block of 2^32 - 1 comes that of 0, by the program's own blocks; the nonce stays.
func TestXorRound(t *testing.T) {
	for _, p := range pairs() {
		var want []byte
		for _, counter := range []uint32{1<<32 - 2, 1<<32 - 1, 0, 1, 2} {
			block := chacha.Block(p.key, counter, p.nonce)
			want = append(want, block[:]...)
		}
		for n := range len(want) + 1 {
			if got := chacha.Xor(p.key, 1<<32-2, p.nonce, make([]byte, n)); !bytes.Equal(got, want[:n]) {
				t.Errorf("Xor of %d noughts, over 2^32", n)
			}
		}
	}
}

// P6.2: nil and no bytes are the same: none.
func TestXorNothing(t *testing.T) {
	for _, p := range pairs() {
		for _, counter := range []uint32{0, 1, 1<<32 - 1} {
			if len(chacha.Xor(p.key, counter, p.nonce, nil)) != 0 || len(chacha.Xor(p.key, counter, p.nonce, []byte{})) != 0 || len(chacha.Xor(p.key, counter, p.nonce, drawn(9)[9:])) != 0 {
				t.Errorf("Xor of nothing from %d on", counter)
			}
		}
	}
}

// P6.2, R3: Xor's answer is a new list; b is not changed, nor is the room around it, also when the answer is changed afterwards and is appended to; and the answer stays when b is changed.
func TestXorNew(t *testing.T) {
	key, nonce := keyOf(3, 7), nonceOf(200, 29)
	for _, n := range lengths() {
		room := drawn(n + 200)
		was := bytes.Clone(room)
		b := room[100 : 100+n]
		got := chacha.Xor(key, 7, nonce, b)
		want := bytes.Clone(got)
		if !bytes.Equal(room, was) {
			t.Errorf("Xor changes what it is handed, %d bytes", n)
		}
		for i := range room {
			room[i] = 0
		}
		if !bytes.Equal(got, want) {
			t.Errorf("Xor's answer hangs on b, %d bytes", n)
		}
		copy(room, was)
		for i := range got {
			got[i]++
		}
		_ = append(got, drawn(100)...)
		if !bytes.Equal(room, was) {
			t.Errorf("what Xor answers is b's memory, %d bytes", n)
		}
		if !bytes.Equal(chacha.Xor(key, 7, nonce, b), want) {
			t.Errorf("Xor has kept its answer, %d bytes", n)
		}
	}
}

// P6.4: parts of whole blocks, and the last one of any length, each xored from the block on at which it begins; over 2^32 too.
func TestXorParts(t *testing.T) {
	key, nonce := keyOf(3, 7), nonceOf(200, 29)
	draw := rand.New(rand.NewSource(64))
	for _, counter := range []uint32{0, 1, 1 << 31, 1<<32 - 4} {
		for _, n := range lengths()[:17] {
			b := drawn(n)
			want := chacha.Xor(key, counter, nonce, b)
			for cut := 0; cut <= n; cut += 64 {
				one := chacha.Xor(key, counter, nonce, b[:cut])
				other := chacha.Xor(key, counter+uint32(cut/64), nonce, b[cut:])
				if !bytes.Equal(slices.Concat(one, other), want) {
					t.Errorf("%d bytes from %d on, cut at %d", n, counter, cut)
				}
			}
			var got []byte
			for at := 0; at < n; {
				part := b[at:min(at+64*draw.Intn(5), n)]
				got = append(got, chacha.Xor(key, counter+uint32(at/64), nonce, part)...)
				at += len(part)
			}
			if !bytes.Equal(got, want) {
				t.Errorf("%d bytes from %d on, in parts", n, counter)
			}
		}
	}
}

// P6.2, P6.4: Stream of 1 to the most bytes: the blocks from 0 on, and Xor of noughts from there.
func TestStream(t *testing.T) {
	for _, p := range pairs() {
		all := streamOf(p.key, 0, p.nonce, 1<<16)
		for _, n := range []int{1, 2, 63, 64, 65, 127, 128, 129, 1000, 65471, 65472, 65473, 65535, 65536} {
			got := chacha.Stream(p.key, p.nonce, n)
			if len(got) != n || !bytes.Equal(got, all[:n]) {
				t.Errorf("Stream of %d: %d bytes", n, len(got))
			}
			if !bytes.Equal(got, chacha.Xor(p.key, 0, p.nonce, make([]byte, n))) {
				t.Errorf("Stream of %d is not Xor of noughts", n)
			}
		}
	}
}

// P6.2: Stream of less than 1 and of more than 2^16 bytes: none.
func TestStreamNone(t *testing.T) {
	for _, p := range pairs() {
		for _, n := range []int{0, -1, -2, -64, -65536, math.MinInt32, math.MinInt, 65537, 65538, 65600, 1 << 17, 1 << 32, 1<<32 + 1, math.MaxInt32, math.MaxInt - 1, math.MaxInt} {
			if got := chacha.Stream(p.key, p.nonce, n); len(got) != 0 {
				t.Errorf("Stream of %d: %d bytes", n, len(got))
			}
		}
	}
}

// R3: what Stream answers is new memory each time.
func TestStreamNew(t *testing.T) {
	key, nonce := keyOf(3, 7), nonceOf(200, 29)
	one := chacha.Stream(key, nonce, 100)
	want := bytes.Clone(one)
	for i := range one {
		one[i] = 0
	}
	if other := chacha.Stream(key, nonce, 100); !bytes.Equal(other, want) {
		t.Errorf("Stream has kept its answer: %x", other)
	}
}

// back goes a quarter back, step by step.
func back(a, b, c, d uint32) (uint32, uint32, uint32, uint32) {
	b = bits.RotateLeft32(b, -7) ^ c
	c -= d
	d = bits.RotateLeft32(d, -8) ^ a
	a -= b
	b = bits.RotateLeft32(b, -12) ^ c
	c -= d
	d = bits.RotateLeft32(d, -16) ^ a
	a -= b
	return a, b, c, d
}

// P6.3: the chapter's example, RFC 8439's other one (2.2.1), and some that were reckoned by hand.
func TestQuarterExamples(t *testing.T) {
	for _, x := range []struct{ in, want [4]uint32 }{
		{[4]uint32{0x11111111, 0x01020304, 0x9b8d6f43, 0x01234567}, [4]uint32{0xea2a92f4, 0xcb1cf8ce, 0x4581472e, 0x5881c4bb}},
		{[4]uint32{0x516461b1, 0x2a5f714c, 0x53372767, 0x3d631689}, [4]uint32{0xbdb886dc, 0xcfacafd2, 0xe46bea80, 0xccc07c79}},
		{[4]uint32{}, [4]uint32{}},
		// One bit of c: it goes into b (by 12), by way of it into a and d (by 8), and both of c and b into b (by 7).
		{[4]uint32{2: 1}, [4]uint32{0x00001000, 0x08080080, 0x00100001, 0x00100000}},
		// The first sum runs over 2^32, and is 0.
		{[4]uint32{0xffffffff, 1, 0, 0}, [4]uint32{0x00001000, 0x08080000, 0x00100000, 0x00100000}},
	} {
		var got [4]uint32
		got[0], got[1], got[2], got[3] = chacha.Quarter(x.in[0], x.in[1], x.in[2], x.in[3])
		if got != x.want {
			t.Errorf("Quarter of %x: %x, want %x", x.in, got, x.want)
		}
	}
}

// P6.3, P6.4: a quarter can be gone back, so that those of unlike words are unlike; of all fours of words at the edges, at which sums run over 2^32.
func TestQuarterBack(t *testing.T) {
	edges := []uint32{0, 1, 2, 0x7fffffff, 0x80000000, 0x80000001, 0xfffffffe, 0xffffffff, 0x9b8d6f43}
	seen := map[[4]uint32]bool{}
	look := func(in [4]uint32) {
		a, b, c, d := chacha.Quarter(in[0], in[1], in[2], in[3])
		if seen[[4]uint32{a, b, c, d}] {
			t.Errorf("Quarter of %x is there already", in)
		}
		seen[[4]uint32{a, b, c, d}] = true
		if a, b, c, d = back(a, b, c, d); [4]uint32{a, b, c, d} != in {
			t.Errorf("Quarter of %x, gone back: %x %x %x %x", in, a, b, c, d)
		}
	}
	for _, a := range edges {
		for _, b := range edges {
			for _, c := range edges {
				for _, d := range edges {
					look([4]uint32{a, b, c, d})
				}
			}
		}
	}
	draw := rand.New(rand.NewSource(4))
	for range 1000 {
		look([4]uint32{draw.Uint32(), draw.Uint32(), draw.Uint32(), draw.Uint32()})
	}
}
