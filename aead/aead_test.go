package aead_test

import (
	"bytes"
	"encoding/binary"
	"encoding/hex"
	"math"
	"math/rand"
	"slices"
	"testing"

	"hollowtree/aead"
	"hollowtree/api"
	"hollowtree/chacha"
	"hollowtree/poly"
)

const sunscreen = "Ladies and Gentlemen of the class of '99: If I could offer you only one tip for the future, sunscreen would be it."

const draft = "Internet-Drafts are draft documents valid for a maximum of six months and may be updated, replaced, or obsoleted by other documents at any time. It is inappropriate to use Internet-Drafts as reference material or to cite them other than as /\u201cwork in progress./\u201d"

// drawn are n bytes, the same ones in each run.
func drawn(n int) []byte {
	b := make([]byte, n)
	rand.New(rand.NewSource(int64(n))).Read(b)
	return b
}

// of is the list of that many bytes c.
func of(c byte, n int) []byte { return bytes.Repeat([]byte{c}, n) }

// rising are n bytes, each of which is step more than the one ahead of it.
func rising(n int, from, step byte) []byte {
	b := make([]byte, n)
	for i := range b {
		b[i] = from + byte(i)*step
	}
	return b
}

// bytesOf are the bytes that the digits stand for.
func bytesOf(t *testing.T, digits string) []byte {
	t.Helper()
	b, err := hex.DecodeString(digits)
	if err != nil {
		t.Fatal(err)
	}
	return b
}

// with is a key and a nonce by which something is sealed.
type with struct {
	key   api.Key
	nonce api.Nonce
}

// withs are keys and nonces of noughts, of ones and of unlike bytes.
func withs() []with {
	ones, onesToo := api.Key(of(0xff, 32)), api.Nonce(of(0xff, 12))
	unlike, unlikeToo := api.Key(rising(32, 3, 7)), api.Nonce(rising(12, 200, 29))
	return []with{{}, {ones, onesToo}, {unlike, unlikeToo}, {api.Key{}, unlikeToo}, {unlike, api.Nonce{}}}
}

// some is the pair of unlike bytes.
func some() with { return withs()[2] }

// lengths are those about the ends of the blocks of both parts, and some of many blocks.
func lengths() []int {
	return []int{0, 1, 2, 15, 16, 17, 31, 32, 33, 47, 48, 63, 64, 65, 127, 128, 129, 1000}
}

// kinds are n noughts, n ones and n unlike bytes.
func kinds(n int) [][]byte { return [][]byte{make([]byte, n), of(0xff, n), drawn(n)} }

// filled is b, and as few noughts behind it as make its length a multiple of 16, one after the other.
func filled(b []byte) []byte {
	out := slices.Clone(b)
	for len(out)%16 != 0 {
		out = append(out, 0)
	}
	return out
}

// lookedAt is all that the tag is made of, put together in the order of the chapter's words.
func lookedAt(ad, cipher []byte) []byte {
	all := slices.Concat(filled(ad), filled(cipher))
	all = binary.LittleEndian.AppendUint64(all, uint64(len(ad)))
	return binary.LittleEndian.AppendUint64(all, uint64(len(cipher)))
}

// tagOf is the tag by the chapter's words.
func tagOf(w with, ad, cipher []byte) api.Tag {
	block := chacha.Block(w.key, 0, w.nonce)
	return poly.Mac(api.Key(block[:32]), lookedAt(ad, cipher))
}

// sealedOf is the sealed text by the chapter's words, xored block by block.
func sealedOf(w with, ad, plain []byte) []byte {
	cipher := slices.Clone(plain)
	for i := range cipher {
		if i%64 == 0 {
			block := chacha.Block(w.key, uint32(1+i/64), w.nonce)
			for j, c := range block[:min(64, len(cipher)-i)] {
				cipher[i+j] ^= c
			}
		}
	}
	tag := tagOf(w, ad, cipher)
	return append(cipher, tag[:]...)
}

// expect holds Seal, Open and Tag against what a plain text is when it is sealed.
func expect(t *testing.T, w with, ad, plain, want []byte) {
	t.Helper()
	got := aead.Seal(w.key, w.nonce, ad, plain)
	if !bytes.Equal(got, want) {
		t.Fatalf("Seal of %d and %d bytes: %x, not %x", len(ad), len(plain), got, want)
	}
	back, err := aead.Open(w.key, w.nonce, ad, want)
	if err != api.OK || !bytes.Equal(back, plain) {
		t.Fatalf("Open of %d and %d bytes: %x, %d", len(ad), len(want), back, err)
	}
	cut := len(plain)
	if tag := aead.Tag(w.key, w.nonce, ad, want[:cut]); !bytes.Equal(tag[:], want[cut:]) {
		t.Fatalf("Tag of %d and %d bytes: %x, not %x", len(ad), cut, tag, want[cut:])
	}
}

// refuse holds Open to ErrAuth, and to telling nothing else.
func refuse(t *testing.T, w with, ad, sealed []byte, what string, at int) {
	t.Helper()
	if got, err := aead.Open(w.key, w.nonce, ad, sealed); err != api.ErrAuth || len(got) != 0 {
		t.Errorf("%s %d: Open of %d and %d bytes: %x, %d", what, at, len(ad), len(sealed), got, err)
	}
}

// P8.1 to P8.3: the chapter's example, which is RFC 8439's of 2.8.2, whole; RFC 8439's of A.5, whole.
func TestExamples(t *testing.T) {
	for _, x := range []struct{ key, nonce, ad, plain, want string }{
		{
			"808182838485868788898a8b8c8d8e8f909192939495969798999a9b9c9d9e9f",
			"070000004041424344454647",
			"50515253c0c1c2c3c4c5c6c7",
			sunscreen,
			"d31a8d34648e60db7b86afbc53ef7ec2a4aded51296e08fea9e2b5a736ee62d63dbea45e8ca9671282fafb69da92728b1a71de0a9e060b2905d6a5b67ecd3b3692ddbd7f2d778b8c9803aee328091b58fab324e4fad675945585808b4831d7bc3ff4def08e4b7a9de576d26586cec64b6116" +
				"1ae10b594f09e26a7e902ecbd0600691",
		},
		{
			"1c9240a5eb55d38af333888604f6b5f0473917c1402b80099dca5cbc207075c0",
			"000000000102030405060708",
			"f33388860000000000004e91",
			draft,
			"64a0861575861af460f062c79be643bd5e805cfd345cf389f108670ac76c8cb24c6cfc18755d43eea09ee94e382d26b0bdb7b73c321b0100d4f03b7f355894cf332f830e710b97ce98c8a84abd0b948114ad176e008d33bd60f982b1ff37c8559797a06ef4f0ef61c186324e2b3506383606907b6a7c02b0f9f6157b53c867e4b9166c767b804d46a59b5216cde7a4e99040c5a40433225ee282a1b0a06c523eaf4534d7f83fa1155b0047718cbc546a0d072b04b3564eea1b422273f548271a0bb2316053fa76991955ebd63159434ecebb4e466dae5a1073a6727627097a1049e617d91d361094fa68f0ff77987130305beaba2eda04df997b714d6c6f2c29a6ad5cb4022b02709b" +
				"eead9d67890cbb22392336fea1851f38",
		},
	} {
		w := with{api.Key(bytesOf(t, x.key)), api.Nonce(bytesOf(t, x.nonce))}
		ad, want := bytesOf(t, x.ad), bytesOf(t, x.want)
		expect(t, w, ad, []byte(x.plain), want)
		refuse(t, w, ad[:len(ad)-1], want, "ad without its last byte", len(ad))
		refuse(t, w, ad, want[:15], "the first bytes", 15)
		if n := len(aead.Seal(w.key, w.nonce, ad, nil)); n != 16 {
			t.Errorf("Seal of no bytes: %d bytes", n)
		}
	}
	if aead.Count(258) != (api.Nonce{4: 2, 5: 1}) {
		t.Errorf("Count(258): %x", aead.Count(258))
	}
}

// P8.3: the one-time keys of RFC 8439 (2.6.2, 2.8.2 and A.4): Tag is Mac by them.
func TestOneTimeKey(t *testing.T) {
	for _, x := range []struct{ key, nonce, want string }{
		{"808182838485868788898a8b8c8d8e8f909192939495969798999a9b9c9d9e9f", "000000000001020304050607", "8ad5a08b905f81cc815040274ab29471a833b637e3fd0da508dbb8e2fdd1a646"},
		{"808182838485868788898a8b8c8d8e8f909192939495969798999a9b9c9d9e9f", "070000004041424344454647", "7bac2b252db447af09b67a55a4e955840ae1d6731075d9eb2a9375783ed553ff"},
		{"0000000000000000000000000000000000000000000000000000000000000000", "000000000000000000000000", "76b8e0ada0f13d90405d6ae55386bd28bdd219b8a08ded1aa836efcc8b770dc7"},
		{"0000000000000000000000000000000000000000000000000000000000000001", "000000000000000000000002", "ecfa254f845f647473d3cb140da9e87606cb33066c447b87bc2666dde3fbb739"},
		{"1c9240a5eb55d38af333888604f6b5f0473917c1402b80099dca5cbc207075c0", "000000000000000000000002", "965e3bc6f9ec7ed9560808f4d229f94b137ff275ca9b3fcbdd59deaad23310ae"},
	} {
		key, nonce := api.Key(bytesOf(t, x.key)), api.Nonce(bytesOf(t, x.nonce))
		for _, n := range lengths() {
			ad, cipher := drawn(n), drawn(2*n+1)
			want := poly.Mac(api.Key(bytesOf(t, x.want)), lookedAt(ad, cipher))
			if got := aead.Tag(key, nonce, ad, cipher); got != want {
				t.Errorf("Tag by %s, %s of %d bytes: %x, not %x", x.key, x.nonce, n, got, want)
			}
		}
	}
}

// P8.1, P8.2: what another program sealed, by keys and nonces of noughts, of ones and of unlike bytes: the first bytes of the cipher text, and the tag.
func TestOther(t *testing.T) {
	for _, x := range []struct {
		with, ad, plain int
		first, tag      string
	}{
		{0, 0, 0, "", "4eb972c9a8fb3a1b382bb4d36f5ffad1"},
		{0, 1, 0, "", "38e60a2822fd6033a12e5c227449d806"},
		{0, 0, 1, "c5", "6511266a09d03a1203996b650a3b2754"},
		{0, 16, 16, "c560933fdbca90cf", "7d69cdafb83a3b1cfde5c94da0237484"},
		{0, 15, 17, "c560933fdbca90cf", "478843fda7bb3d6a1f77d0dde3298224"},
		{0, 17, 15, "c560933fdbca90cf", "84c76d8b069098ea217142d4e94ee9f1"},
		{0, 63, 64, "c560933fdbca90cf", "e4394ec2985d34e53ef4a9e47784546f"},
		{0, 64, 65, "c560933fdbca90cf", "0fb0023f39426eb1f80686933e41d06c"},
		{0, 65, 63, "c560933fdbca90cf", "c3f26265e62e7ceb2557df103d5fb075"},
		{0, 300, 200, "c560933fdbca90cf", "219f664aac5faefc9c5b0a022cf562c0"},
		{1, 0, 0, "", "0b5528ab3ff425fbf1fce9fcfb979029"},
		{1, 1, 0, "", "7e8ce918c52e4dfb769dde7f3b922261"},
		{1, 0, 1, "87", "1d8fa3cbde662e9255d232f1409ad21c"},
		{1, 16, 16, "874034bd628516f7", "e2d2e17d82c2eb79243e9a4888d4c74b"},
		{1, 15, 17, "874034bd628516f7", "8dfcba0815984b3a01227900f1f4c4ac"},
		{1, 17, 15, "874034bd628516f7", "2130c078bf2f83541076ff88c6aa1812"},
		{1, 300, 200, "874034bd628516f7", "bb88606d59f4e9eba5bd553087db037c"},
		{2, 0, 0, "", "271c8e710bbd0fb40db91d54ba192ac1"},
		{2, 1, 0, "", "843831809f304df70a890948c813570e"},
		{2, 0, 1, "6a", "2def8c8e7d892a08999e9726de19adc7"},
		{2, 16, 16, "6a1c5228bc6f40cb", "b40b67758276bac74119c3d955abe627"},
		{2, 15, 17, "6a1c5228bc6f40cb", "c0280b6a3d3a123e7f3ab633b5579371"},
		{2, 17, 15, "6a1c5228bc6f40cb", "111ce2d0bc55a4dd229d4ed9d6048f80"},
		{2, 63, 64, "6a1c5228bc6f40cb", "2aa4e3b7d8f424352e4da867da72e1c2"},
		{2, 64, 65, "6a1c5228bc6f40cb", "adef453097c46f1ac108b2d9598d5a14"},
		{2, 65, 63, "6a1c5228bc6f40cb", "e4a4f52d6fbb60f596ade4d126c3391f"},
		{2, 12, 114, "6a1c5228bc6f40cb", "54a40c80b0bfb35fe63a39a025eb15ee"},
		{2, 300, 200, "6a1c5228bc6f40cb", "ef0f8cbda0e7059b54d99a14cac39ac4"},
	} {
		w := withs()[x.with]
		ad, plain := rising(x.ad, 5, 11), rising(x.plain, 90, 13)
		got := aead.Seal(w.key, w.nonce, ad, plain)
		if len(got) != x.plain+16 || !bytes.HasPrefix(got, bytesOf(t, x.first)) || !bytes.Equal(got[x.plain:], bytesOf(t, x.tag)) {
			t.Errorf("Seal of %d and %d bytes, %d: %x", x.ad, x.plain, x.with, got)
			continue
		}
		expect(t, w, ad, plain, got)
	}
}

// P8.1 to P8.4: texts and ads of all lengths, of noughts, of ones and of unlike bytes, by keys and nonces of such ones, against the chapter's words.
func TestSeal(t *testing.T) {
	for _, w := range withs() {
		for _, n := range lengths() {
			for _, m := range lengths() {
				for i, plain := range kinds(n) {
					ad := kinds(m)[(i+n)%3]
					expect(t, w, ad, plain, sealedOf(w, ad, plain))
				}
			}
		}
	}
}

// P8.1 to P8.4: many bytes: more blocks than a byte of the counter can tell, and of an odd length.
func TestMany(t *testing.T) {
	w := some()
	for _, n := range []int{64 * 255, 64*256 + 1, 70001, 64 * 65537} {
		expect(t, w, drawn(9), drawn(n), sealedOf(w, drawn(9), drawn(n)))
		expect(t, w, drawn(n), drawn(9), sealedOf(w, drawn(n), drawn(9)))
	}
}

// P8.1 to P8.4, R5: what is drawn, and the same once more.
func TestDrawn(t *testing.T) {
	draw := rand.New(rand.NewSource(8))
	for range 3000 {
		var w with
		draw.Read(w.key[:])
		draw.Read(w.nonce[:])
		ad, plain := make([]byte, draw.Intn(150)), make([]byte, draw.Intn(300))
		draw.Read(ad)
		draw.Read(plain)
		want := sealedOf(w, ad, plain)
		expect(t, w, ad, plain, want)
		expect(t, w, ad, plain, want)
	}
}

// P8.1, P8.2: nil and no bytes are the same, as ad, as a plain text and as what Open tells.
func TestNothing(t *testing.T) {
	nothings := [][]byte{nil, {}, drawn(9)[9:]}
	for _, w := range withs() {
		for _, ad := range nothings {
			for _, plain := range nothings {
				expect(t, w, ad, plain, sealedOf(w, nil, nil))
			}
			expect(t, w, ad, drawn(40), sealedOf(w, nil, drawn(40)))
			expect(t, w, drawn(40), ad, sealedOf(w, drawn(40), nil))
		}
	}
}

// P8.1, P8.2: each bit of the key and of the nonce counts, in the cipher text and in the tag, also where there is no text; by another one nothing opens.
func TestKeyAndNonceCount(t *testing.T) {
	ad := drawn(12)
	for _, n := range []int{0, 1, 16, 40} {
		for _, w := range withs()[:3] {
			was := aead.Seal(w.key, w.nonce, ad, drawn(n))
			seen := map[string]bool{string(was): true}
			for i := range 8 * (32 + 12) {
				other := w
				if i < 256 {
					other.key[i/8] ^= 1 << (i % 8)
				} else {
					other.nonce[(i-256)/8] ^= 1 << (i % 8)
				}
				got := aead.Seal(other.key, other.nonce, ad, drawn(n))
				if seen[string(got)] || bytes.Equal(got[n:], was[n:]) || n >= 16 && bytes.Equal(got[:n], was[:n]) {
					t.Errorf("bit %d does not count in %d bytes", i, n)
				}
				seen[string(got)] = true
				refuse(t, other, ad, was, "another key or nonce: bit", i)
			}
		}
	}
}

// P8.1, P8.2: each bit of ad counts, in the tag alone; with another ad nothing opens.
func TestAdCounts(t *testing.T) {
	w, plain := some(), drawn(40)
	for _, n := range []int{1, 15, 16, 17, 63, 64, 65, 200} {
		ad := drawn(n)
		was := aead.Seal(w.key, w.nonce, ad, plain)
		seen := map[string]bool{string(was): true}
		for i := range 8 * n {
			other := drawn(n)
			other[i/8] ^= 1 << (i % 8)
			got := aead.Seal(w.key, w.nonce, other, plain)
			if seen[string(got)] || !bytes.Equal(got[:40], was[:40]) {
				t.Errorf("bit %d of %d bytes of ad", i, n)
			}
			seen[string(got)] = true
			refuse(t, w, other, was, "another ad: bit", i)
		}
	}
}

// P8.2: ad with bytes too few and too many, at its beginning and at its end, noughts among them.
func TestAdLength(t *testing.T) {
	w := some()
	for _, n := range lengths() {
		for _, ad := range kinds(n) {
			sealed := aead.Seal(w.key, w.nonce, ad, drawn(33))
			for cut := 1; cut <= n && cut < 40; cut++ {
				refuse(t, w, ad[cut:], sealed, "ad without its first bytes", cut)
				refuse(t, w, ad[:n-cut], sealed, "ad without its last bytes", cut)
			}
			for more := 1; more < 40; more++ {
				for i, b := range kinds(more) {
					refuse(t, w, slices.Concat(ad, b), sealed, "ad with bytes behind it", i)
					refuse(t, w, slices.Concat(b, ad), sealed, "ad with bytes ahead of it", i)
				}
			}
		}
	}
}

// P8.2: fewer than 16 bytes, whichever, the right tag's first or last ones among them; 16 that are no tag; and the tag of no bytes.
func TestOpenShort(t *testing.T) {
	for _, w := range withs() {
		for _, ad := range [][]byte{nil, {0}, drawn(16), drawn(40)} {
			tag := aead.Seal(w.key, w.nonce, ad, nil)
			refuse(t, w, ad, nil, "nil", 0)
			for n := range 16 {
				refuse(t, w, ad, tag[:n], "the tag's first bytes", n)
				refuse(t, w, ad, tag[16-n:], "the tag's last bytes", n)
				for i, b := range kinds(n) {
					refuse(t, w, ad, b, "few bytes", i)
				}
			}
			for i, b := range kinds(16) {
				refuse(t, w, ad, b, "16 bytes", i)
			}
			if got, err := aead.Open(w.key, w.nonce, ad, tag); err != api.OK || len(got) != 0 {
				t.Errorf("Open of the tag alone: %x, %d", got, err)
			}
		}
	}
}

// P8.2, P8.4: each bit of the tag, alone and with each other byte's same bit, so that neither a sum nor an exclusive or of the bytes would do; each byte made every other one; bytes that change places.
func TestTagTurned(t *testing.T) {
	w, ad := some(), drawn(12)
	for _, n := range []int{0, 1, 16, 40} {
		sealed := aead.Seal(w.key, w.nonce, ad, drawn(n))
		for i := range 16 {
			for j := range 16 {
				for bit := range 8 {
					other := slices.Clone(sealed)
					other[n+i] ^= 1 << bit
					if i != j {
						other[n+j] ^= 1 << bit
					}
					refuse(t, w, ad, other, "the tag's bytes turned, the first", i)
				}
				other := slices.Clone(sealed)
				other[n+i], other[n+j] = other[n+j], other[n+i]
				if other[n+i] != other[n+j] {
					refuse(t, w, ad, other, "the tag's bytes in other places, the first", i)
				}
			}
			for more := 1; more < 256; more++ {
				other := slices.Clone(sealed)
				other[n+i] += byte(more)
				refuse(t, w, ad, other, "another byte of the tag", i)
			}
		}
		for i, b := range kinds(16) {
			refuse(t, w, ad, append(sealed[:n:n], b...), "another tag", i)
		}
	}
}

// P8.2: each bit of the cipher text turned; the plain text as it is, with the tag.
func TestCipherTurned(t *testing.T) {
	for _, w := range withs()[:3] {
		for _, n := range []int{1, 15, 16, 17, 63, 64, 65, 130} {
			sealed := aead.Seal(w.key, w.nonce, drawn(12), drawn(n))
			for i := range 8 * n {
				other := slices.Clone(sealed)
				other[i/8] ^= 1 << (i % 8)
				refuse(t, w, drawn(12), other, "the cipher text turned: bit", i)
			}
			refuse(t, w, drawn(12), append(drawn(n), sealed[n:]...), "the plain text and the tag", n)
		}
	}
}

// P8.2: bytes too few and too many: at the beginning, at the end, and between the cipher text and the tag.
func TestSealedLength(t *testing.T) {
	w, ad := some(), drawn(12)
	for _, n := range lengths() {
		sealed := aead.Seal(w.key, w.nonce, ad, drawn(n))
		for cut := 1; cut <= min(n+16, 40); cut++ {
			refuse(t, w, ad, sealed[cut:], "without the first bytes", cut)
			refuse(t, w, ad, sealed[:n+16-cut], "without the last bytes", cut)
			if cut <= n {
				refuse(t, w, ad, slices.Concat(sealed[:n-cut], sealed[n:]), "without the cipher text's last bytes", cut)
			}
		}
		for more := 1; more < 40; more++ {
			for i, b := range kinds(more) {
				refuse(t, w, ad, slices.Concat(b, sealed), "with bytes ahead", i)
				refuse(t, w, ad, slices.Concat(sealed, b), "with bytes behind", i)
				refuse(t, w, ad, slices.Concat(sealed[:n], b, sealed[n:]), "with bytes ahead of the tag", i)
			}
		}
	}
}

// P8.3: Tag of ads and cipher texts of all lengths, multiples of 16 among them: what Seal has behind the cipher text, and what the chapter's words say.
func TestTag(t *testing.T) {
	for _, w := range withs() {
		for _, n := range lengths() {
			for _, m := range lengths() {
				ad, plain := drawn(m), drawn(n)
				sealed := aead.Seal(w.key, w.nonce, ad, plain)
				got := aead.Tag(w.key, w.nonce, ad, sealed[:n])
				if !bytes.Equal(got[:], sealed[n:]) || got != tagOf(w, ad, sealed[:n]) {
					t.Errorf("Tag of %d and %d bytes: %x", m, n, got)
				}
			}
		}
	}
}

// P8.3: where ad ends and the cipher text begins counts: bytes that go over from one to the other make another tag, noughts too; so do noughts that stand where a text is filled up.
func TestGoOver(t *testing.T) {
	for _, w := range withs()[:3] {
		for _, n := range []int{1, 15, 16, 17, 32, 48, 65} {
			for _, all := range kinds(n) {
				seen := map[api.Tag]int{}
				for cut := range n + 1 {
					tag := aead.Tag(w.key, w.nonce, all[:cut], all[cut:])
					if at, ok := seen[tag]; ok {
						t.Errorf("%d bytes, cut at %d, are as cut at %d", n, cut, at)
					}
					seen[tag] = cut
				}
			}
			was := aead.Tag(w.key, w.nonce, drawn(n), drawn(n))
			for more := 1; more <= 17; more++ {
				longer := append(drawn(n), make([]byte, more)...)
				if aead.Tag(w.key, w.nonce, longer, drawn(n)) == was || aead.Tag(w.key, w.nonce, drawn(n), longer) == was {
					t.Errorf("%d noughts behind %d bytes do not count", more, n)
				}
			}
		}
	}
}

// P8.2: a sealed text whose first bytes have gone over to ad opens to nothing, nor does one to which ad's last bytes have gone over.
func TestOpenGoneOver(t *testing.T) {
	w := some()
	for _, n := range []int{16, 32, 40} {
		for _, b := range kinds(n) {
			sealed := aead.Seal(w.key, w.nonce, b, b)
			for cut := 1; cut <= n; cut++ {
				refuse(t, w, slices.Concat(b, sealed[:cut]), sealed[cut:], "gone over to ad", cut)
				refuse(t, w, b[:n-cut], slices.Concat(b[n-cut:], sealed), "gone over from ad", cut)
			}
		}
	}
}

// P8.3: Count at the edges; each bit goes where it belongs.
func TestCount(t *testing.T) {
	for n, want := range map[uint64]string{
		0:                  "000000000000000000000000",
		1:                  "000000000100000000000000",
		255:                "00000000ff00000000000000",
		256:                "000000000001000000000000",
		258:                "000000000201000000000000",
		math.MaxUint32:     "00000000ffffffff00000000",
		1 << 32:            "000000000000000001000000",
		math.MaxInt64:      "00000000ffffffffffffff7f",
		math.MaxUint64:     "00000000ffffffffffffffff",
		0x0807060504030201: "000000000102030405060708",
	} {
		if got := aead.Count(n); hex.EncodeToString(got[:]) != want {
			t.Errorf("Count(%d): %x, not %s", n, got, want)
		}
	}
	for bit := range 64 {
		want := api.Nonce{}
		want[4+bit/8] = 1 << (bit % 8)
		if got := aead.Count(1 << bit); got != want {
			t.Errorf("Count(2^%d): %x", bit, got)
		}
	}
}

// P8.4: what opens was sealed: cipher texts that Seal never made, with their tag; Seal of what Open tells is the sealed text.
func TestSealOfOpen(t *testing.T) {
	for _, w := range withs() {
		for _, n := range lengths() {
			for _, cipher := range kinds(n) {
				tag := aead.Tag(w.key, w.nonce, drawn(20), cipher)
				sealed := slices.Concat(cipher, tag[:])
				plain, err := aead.Open(w.key, w.nonce, drawn(20), sealed)
				if err != api.OK || !bytes.Equal(plain, chacha.Xor(w.key, 1, w.nonce, cipher)) {
					t.Errorf("Open of a cipher text of %d bytes: %d", n, err)
				}
				if got := aead.Seal(w.key, w.nonce, drawn(20), plain); !bytes.Equal(got, sealed) {
					t.Errorf("Seal of Open of %d bytes: %x, not %x", n, got, sealed)
				}
			}
		}
	}
}

// P8.4: unlike plain texts of one length, sealed, are unlike: all of one byte, and all that are a bit away from another one.
func TestUnlike(t *testing.T) {
	for _, w := range withs() {
		seen := map[string]bool{}
		for c := range 256 {
			seen[string(aead.Seal(w.key, w.nonce, nil, []byte{byte(c)})[:1])] = true
		}
		if len(seen) != 256 {
			t.Errorf("256 texts of a byte make %d cipher texts", len(seen))
		}
		for _, n := range []int{15, 16, 17, 63, 64, 65, 200} {
			was := aead.Seal(w.key, w.nonce, drawn(5), drawn(n))
			for i := range 8 * n {
				other := drawn(n)
				other[i/8] ^= 1 << (i % 8)
				got := aead.Seal(w.key, w.nonce, drawn(5), other)
				want := slices.Clone(was[:n])
				want[i/8] ^= 1 << (i % 8)
				if !bytes.Equal(got[:n], want) || bytes.Equal(got[n:], was[n:]) {
					t.Errorf("texts of %d bytes that are unlike in bit %d", n, i)
				}
			}
		}
	}
}

// inRoom is b amid other bytes, and the whole room.
func inRoom(b []byte) (part, room []byte) {
	room = slices.Concat(of(0xaa, 40), b, of(0xbb, 40))
	return room[40 : 40+len(b)], room
}

// P8.1 to P8.3, R3: what is handed in is not changed, nor is the room around it, also when the answer is changed afterwards and is appended to; and the answer stays when what was handed in is changed.
func TestNew(t *testing.T) {
	w := some()
	for _, n := range lengths() {
		want := sealedOf(w, drawn(n), drawn(n))
		ad, adRoom := inRoom(drawn(n))
		plain, plainRoom := inRoom(drawn(n))
		sealed, sealedRoom := inRoom(want)
		rooms := [][]byte{adRoom, plainRoom, sealedRoom}
		was := slices.Concat(rooms...)

		one, again := aead.Seal(w.key, w.nonce, ad, plain), aead.Seal(w.key, w.nonce, ad, plain)
		back, err := aead.Open(w.key, w.nonce, ad, sealed)
		tag := aead.Tag(w.key, w.nonce, ad, sealed[:n])
		for i := range one {
			one[i] ^= 0xff
		}
		for _, b := range [][]byte{one, back} {
			_ = append(b, of(0xcc, 64)...)
		}
		if !bytes.Equal(slices.Concat(rooms...), was) {
			t.Errorf("%d bytes: what is handed in is changed", n)
		}
		for _, room := range rooms {
			clear(room)
		}
		if !bytes.Equal(again, want) || err != api.OK || !bytes.Equal(back, drawn(n)) || !bytes.Equal(tag[:], want[n:]) {
			t.Errorf("%d bytes: the answer hangs on what is handed in", n)
		}
	}
}

// P8.2, R3: what Open tells may be changed, and opened again it is the same; the sealed text is as it was, also when it was refused.
func TestOpenNew(t *testing.T) {
	w := some()
	for _, n := range lengths() {
		want := sealedOf(w, drawn(9), drawn(n))
		sealed, room := inRoom(want)
		was := slices.Clone(room)
		one, _ := aead.Open(w.key, w.nonce, drawn(9), sealed)
		clear(one)
		if got, err := aead.Open(w.key, w.nonce, drawn(9), sealed); err != api.OK || !bytes.Equal(got, drawn(n)) {
			t.Errorf("Open of %d bytes, once more: %x, %d", n, got, err)
		}
		refuse(t, w, drawn(10), sealed, "another ad", 10)
		if !bytes.Equal(room, was) {
			t.Errorf("Open of %d bytes changes them", n)
		}
	}
}

// P8.1, P8.2, R3: ad and the text may be one and the same list, and what Seal answers may be sealed once more.
func TestSame(t *testing.T) {
	w := some()
	for _, n := range lengths() {
		b := drawn(n)
		expect(t, w, b, b, sealedOf(w, drawn(n), drawn(n)))
		one := aead.Seal(w.key, w.nonce, b, b)
		two := aead.Seal(w.key, w.nonce, one, one)
		expect(t, w, one, one, two)
		expect(t, w, b, b, one)
	}
}
