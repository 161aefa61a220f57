package kdf_test

import (
	"bytes"
	"crypto/hkdf"
	"crypto/hmac"
	"crypto/sha256"
	"encoding/binary"
	"encoding/hex"
	"math"
	"math/rand"
	"slices"
	"testing"

	"hollowtree/api"
	"hollowtree/kdf"
)

// drawn are n bytes, the same ones in each run.
func drawn(n int) []byte {
	b := make([]byte, n)
	rand.New(rand.NewSource(int64(n))).Read(b)
	return b
}

// row are n bytes, each one more than the one ahead of it.
func row(from byte, n int) []byte {
	b := make([]byte, n)
	for i := range b {
		b[i] = from + byte(i)
	}
	return b
}

// bytesOf are the bytes that the digits stand for.
func bytesOf(t *testing.T, digits string) []byte {
	t.Helper()
	b, err := hex.DecodeString(digits)
	if err != nil {
		t.Fatal(err)
	}
	return b
}

// lengths are those about a block's end, and others.
func lengths() []int {
	return []int{0, 1, 2, 31, 32, 33, 55, 56, 62, 63, 64, 65, 66, 119, 120, 127, 128, 129, 200, 1000, 5000}
}

// code is the code by another's reckoning.
func code(key, text []byte) api.Key {
	h := hmac.New(sha256.New, key)
	h.Write(text)
	return api.Key(h.Sum(nil))
}

// spreadTo is the key, spread, by another's reckoning.
func spreadTo(t *testing.T, key api.Key, info []byte, n int) []byte {
	t.Helper()
	b, err := hkdf.Expand(sha256.New, key[:], string(info), n)
	if err != nil {
		t.Fatal(err)
	}
	return b
}

// info is what the chapter's words make of a label and parts.
func info(label string, parts ...[]byte) []byte {
	b := binary.LittleEndian.AppendUint32(nil, uint32(len(label)))
	b = append(b, label...)
	for _, part := range parts {
		b = binary.LittleEndian.AppendUint32(b, uint32(len(part)))
		b = append(b, part...)
	}
	return b
}

// texts are parts of these texts.
func texts(s ...string) [][]byte {
	var out [][]byte
	for _, x := range s {
		out = append(out, []byte(x))
	}
	return out
}

// P5.1: the chapter's examples, and RFC 4231's others, whose codes are not cut.
func TestHmacExamples(t *testing.T) {
	for _, x := range []struct {
		key   []byte
		parts [][]byte
		want  string
	}{
		{bytes.Repeat([]byte{0x0b}, 20), texts("Hi There"), "b0344c61d8db38535ca8afceaf0bf12b881dc200c9833da726e9376c2e32cff7"},
		{[]byte("Jefe"), texts("what do ya want ", "for nothing?"), "5bdcc146bf60754e6a042426089575c75a003f089d2739839dec58b964ec3843"},
		{bytes.Repeat([]byte{0xaa}, 20), [][]byte{bytes.Repeat([]byte{0xdd}, 50)}, "773ea91e36800e46854db8ebd09181a72959098b3ef8c122d9635514ced565fe"},
		{row(1, 25), [][]byte{bytes.Repeat([]byte{0xcd}, 50)}, "82558a389a443c0ea4cc819899f2083a85f0faa3e578f8077a2e3ff46729665b"},
		{bytes.Repeat([]byte{0xaa}, 131), texts("Test Using Larger Than Block-Size Key - Hash Key First"), "60e431591ee0b67f0d8a26aacbf5b77f8e0bc6213728c5140546040f0ee37f54"},
		{bytes.Repeat([]byte{0xaa}, 131), texts("This is a test using a larger than block-size key and a larger than block-size data. The key needs to be hashed before being used by the HMAC algorithm."), "9b09ffa71b942fcb27635fbcd5b0e944bfdc63644f0713938a7f51535c3a35e2"},
	} {
		if got := kdf.Hmac(x.key, x.parts...); hex.EncodeToString(got[:]) != x.want {
			t.Errorf("Hmac of %x: %x", x.key, got)
		}
	}
}

// P5.1, P5.2: the chapter's examples, and RFC 5869's others: with long bytes, and with none.
func TestHkdfExamples(t *testing.T) {
	for _, x := range []struct {
		salt, secret, info []byte
		key, spread        string
	}{
		{row(0, 13), bytes.Repeat([]byte{0x0b}, 22), row(0xf0, 10),
			"077709362c2e32df0ddc3f0dc47bba6390b6c73bb50f9c3122ec844ad7c2b3e5",
			"3cb25f25faacd57a90434f64d0362f2a2d2d0a90cf1a5a4c5db02d56ecc4c5bf34007208d5b887185865"},
		{row(0x60, 80), row(0, 80), row(0xb0, 80),
			"06a6b88c5853361a06104c9ceb35b45cef760014904671014a193f40c15fc244",
			"b11e398dc80327a1c8e7f78c596a49344f012eda2d4efad8a050cc4c19afa97c59045a99cac7827271cb41c65e590e09da3275600c2f09b8367793a9aca3db71cc30c58179ec3e87c14c01d5c1f3434f1d87"},
		{nil, bytes.Repeat([]byte{0x0b}, 22), nil,
			"19ef24a32c717b167f33a91d6f648bdf96596776afdb6377ac434c1c293ccb04",
			"8da4e775a563c18f715f802a063c5a31b8a11f5c5ee1879ec3454e5f3c738d2d9d201395faa4b61a96c8"},
	} {
		key := kdf.Extract(x.salt, x.secret)
		if hex.EncodeToString(key[:]) != x.key {
			t.Errorf("Extract: %x, want %s", key, x.key)
		}
		want := bytesOf(t, x.spread)
		if got, err := kdf.Expand(key, x.info, len(want)); err != api.OK || !bytes.Equal(got, want) {
			t.Errorf("Expand: %x, %d, want %s", got, err, x.spread)
		}
	}
}

// P5.1: keys and texts of no bytes, about a block's end, and of many more.
func TestHmac(t *testing.T) {
	for _, k := range lengths() {
		for _, n := range lengths() {
			key, text := drawn(k), drawn(n + 7)[7:]
			if got := kdf.Hmac(key, text); got != code(key, text) {
				t.Errorf("Hmac of a key of %d, a text of %d: %x", k, n, got)
			}
		}
	}
	big := drawn(1 << 20)
	if kdf.Hmac(big, big) != code(big, big) {
		t.Error("Hmac of a million bytes")
	}
}

// P5.1: a key of up to 64 bytes and noughts behind it is that key; one that is longer is its hash, and 65 bytes are longer.
func TestHmacKey(t *testing.T) {
	text := []byte("text")
	for n := range 65 {
		key := row(1, n)
		full := append(row(1, n), make([]byte, 64-n)...)
		if kdf.Hmac(key, text) != kdf.Hmac(full, text) {
			t.Errorf("a key of %d bytes, and noughts behind it", n)
		}
	}
	for _, n := range []int{64, 65, 66, 128, 300} {
		key := row(1, n)
		sum := sha256.Sum256(key)
		if same := kdf.Hmac(key, text) == kdf.Hmac(sum[:], text); same != (n > 64) {
			t.Errorf("a key of %d bytes, and its hash: %v", n, same)
		}
	}
	if kdf.Hmac(nil, text) != kdf.Hmac([]byte{}, text) || kdf.Hmac(nil, text) != kdf.Hmac(make([]byte, 64), text) {
		t.Error("no key")
	}
}

// P5.1, P5.3: no parts, and parts of no bytes, are no bytes.
func TestHmacNothing(t *testing.T) {
	for _, n := range lengths() {
		key := drawn(n)
		want := code(key, nil)
		if kdf.Hmac(key) != want || kdf.Hmac(key, nil) != want || kdf.Hmac(key, []byte{}, nil, []byte{}) != want {
			t.Errorf("Hmac of nothing, a key of %d", n)
		}
	}
}

// P5.1, P5.3: parts that come to the same bytes, cut at each place in two, byte by byte, and in many ways with empty and nil ones among them.
func TestHmacParts(t *testing.T) {
	key, text := drawn(40), drawn(150)
	want := code(key, text)
	for cut := range len(text) + 1 {
		if kdf.Hmac(key, text[:cut], text[cut:]) != want {
			t.Errorf("cut at %d", cut)
		}
	}
	if kdf.Hmac(key, slices.Collect(slices.Chunk(text, 1))...) != want {
		t.Error("byte by byte")
	}
	draw := rand.New(rand.NewSource(5))
	for range 200 {
		var parts [][]byte
		for at := 0; at < len(text); {
			n := min(draw.Intn(70), len(text)-at)
			parts = append(parts, nil, text[at:at+n], []byte{})
			at += n
		}
		if kdf.Hmac(key, parts...) != want {
			t.Errorf("in %d parts", len(parts))
		}
	}
	if kdf.Hmac(key, text[1:], text[:1]) == want {
		t.Error("parts in another order have the same code")
	}
}

// P5.1: Extract is the code of the salt and the secret, which of them is which; a salt of no bytes too.
func TestExtract(t *testing.T) {
	for _, s := range lengths() {
		for _, n := range []int{0, 1, 32, 64, 65, 300} {
			salt, secret := drawn(s), drawn(n + 3)[3:]
			if got := kdf.Extract(salt, secret); got != code(salt, secret) {
				t.Errorf("Extract of a salt of %d, a secret of %d: %x", s, n, got)
			}
		}
	}
	secret := []byte("secret")
	if kdf.Extract(nil, secret) != kdf.Extract([]byte{}, secret) || kdf.Extract(nil, secret) != code(nil, secret) {
		t.Error("Extract with no salt")
	}
	if kdf.Extract(secret, []byte("salt")) == kdf.Extract([]byte("salt"), secret) {
		t.Error("salt and secret are taken for each other")
	}
}

// P5.2: Expand to none, about a code's end, and to the most; with empty, short and long info.
func TestExpand(t *testing.T) {
	key := api.Key(drawn(32))
	for _, i := range []int{0, 1, 10, 64, 65, 1000, 100000} {
		for _, n := range []int{0, 1, 2, 31, 32, 33, 63, 64, 65, 96, 1000, 8127, 8128, 8129, 8159, 8160} {
			if i > 1000 && n > 64 {
				continue
			}
			got, err := kdf.Expand(key, drawn(i), n)
			if err != api.OK || len(got) != n || !bytes.Equal(got, spreadTo(t, key, drawn(i), n)) {
				t.Errorf("Expand with %d bytes to %d: %d bytes, %d", i, n, len(got), err)
			}
		}
	}
	one, _ := kdf.Expand(key, nil, 40)
	other, _ := kdf.Expand(key, []byte{}, 40)
	if !bytes.Equal(one, other) {
		t.Error("nil and empty info are spread in two ways")
	}
}

// P5.2, R2: Expand to less than none, and to more than the most.
func TestExpandWrong(t *testing.T) {
	for _, n := range []int{-1, -2, -32, -33, -8160, math.MinInt32, math.MinInt, 8161, 8162, 8192, 1 << 20, math.MaxInt32, math.MaxInt - 32, math.MaxInt} {
		for _, info := range [][]byte{nil, {}, drawn(100)} {
			if b, err := kdf.Expand(api.Key{1}, info, n); err != api.ErrArg || len(b) != 0 {
				t.Errorf("Expand to %d: %d bytes, %d", n, len(b), err)
			}
		}
	}
}

// P5.3: Expand to each fewer bytes is the beginning of Expand to the most.
func TestExpandBegins(t *testing.T) {
	key, with := api.Key{3}, []byte("with")
	all, err := kdf.Expand(key, with, 8160)
	if err != api.OK {
		t.Fatal(err)
	}
	some := []int{1000, 4079, 4080, 4081, 8127, 8128, 8129, 8158, 8159}
	for n := range 300 {
		some = append(some, n)
	}
	for _, n := range some {
		if b, err := kdf.Expand(key, with, n); err != api.OK || !bytes.Equal(b, all[:n]) {
			t.Errorf("Expand to %d is no beginning, %d", n, err)
		}
	}
}

// P5.2: Expand hangs on the key and on info.
func TestExpandOther(t *testing.T) {
	seen := map[string]bool{}
	for _, key := range []api.Key{{}, {1}, {31: 1}, {31: 0x80}} {
		for _, info := range texts("", "\x00", "a", "b", "ab", "ab\x01") {
			b, err := kdf.Expand(key, info, 32)
			if err != api.OK || seen[string(b)] {
				t.Errorf("Expand of %x with %q: %x once more, %d", key, info, b, err)
			}
			seen[string(b)] = true
		}
	}
}

// labels are a label and parts each; all of them are unlike, though some come to the same bytes.
func labels() []struct {
	label string
	parts [][]byte
} {
	return []struct {
		label string
		parts [][]byte
	}{
		{"", nil},
		{"", texts("")},
		{"", texts("", "")},
		{"ab", nil},
		{"ab", texts("")},
		{"a", texts("b")},
		{"", texts("ab")},
		{"", texts("a", "b")},
		{"", texts("ab", "")},
		{"", texts("", "ab")},
		{"ba", nil},
		{"\x00", nil},
		{"\x00\x00\x00\x00", nil},
		{"label", texts("one", "two")},
		{"label", texts("on", "etwo")},
		{"label", texts("onet", "wo")},
		{"label", texts("two", "one")},
		{"label", texts("onetwo")},
		{"labelone", texts("two")},
		{"labelonetwo", nil},
		{"label\x03\x00\x00\x00one", texts("two")},
		{"label", texts("one\x03\x00\x00\x00two")},
		{"é\xff", texts("\xff\x00")},
		{string(drawn(300)), [][]byte{drawn(256), drawn(65536), nil}},
	}
}

// P5.2: Derive and Two against what the chapter's words make of label and parts; Two's first key is Derive's, the second one what is spread behind it.
func TestDeriveTwo(t *testing.T) {
	for _, key := range []api.Key{{}, {1}, api.Key(drawn(32))} {
		for _, x := range labels() {
			both := spreadTo(t, key, info(x.label, x.parts...), 64)
			if got := kdf.Derive(key, x.label, x.parts...); got != api.Key(both[:32]) {
				t.Errorf("Derive of %.20q, %d parts: %x", x.label, len(x.parts), got)
			}
			one, other := kdf.Two(key, x.label, x.parts...)
			if one != api.Key(both[:32]) || other != api.Key(both[32:]) {
				t.Errorf("Two of %.20q, %d parts: %x, %x", x.label, len(x.parts), one, other)
			}
		}
	}
}

// P5.2: Derive and Two in numbers that are written out, so that label, lengths and parts are where the chapter says, whoever reckons.
func TestDeriveInfo(t *testing.T) {
	key := api.Key{9}
	with := []byte("\x02\x00\x00\x00ab\x01\x00\x00\x00c\x00\x00\x00\x00\x04\x01\x00\x00")
	long := bytes.Repeat([]byte{7}, 260)
	want, err := kdf.Expand(key, append(with, long...), 64)
	if err != api.OK {
		t.Fatal(err)
	}
	parts := [][]byte{[]byte("c"), nil, long}
	one, other := kdf.Two(key, "ab", parts...)
	if !bytes.Equal(one[:], want[:32]) || !bytes.Equal(other[:], want[32:]) {
		t.Errorf("Two: %x, %x", one, other)
	}
	if got := kdf.Derive(key, "ab", parts...); got != one {
		t.Errorf("Derive: %x", got)
	}
}

// P5.3: other labels or parts have other secrets, also where bytes are moved from one to the next or into the label; so do other keys; and Two's keys are unlike.
func TestDeriveOther(t *testing.T) {
	seen := map[api.Key]string{}
	tell := func(k api.Key, what string) {
		if was, there := seen[k]; there {
			t.Errorf("%.40q and %.40q are alike", was, what)
		}
		seen[k] = what
	}
	for _, key := range []api.Key{{}, {1}, {31: 1}} {
		for _, x := range labels() {
			what := string(key[:]) + string(info(x.label, x.parts...))
			one, other := kdf.Two(key, x.label, x.parts...)
			tell(one, what)
			tell(other, what+" other")
			if kdf.Derive(key, x.label, x.parts...) != one {
				t.Errorf("Two's first key is not Derive's: %.20q", x.label)
			}
		}
	}
}

// P5.3: a nil part is as an empty one, but no part is not.
func TestDeriveNil(t *testing.T) {
	key := api.Key{4}
	if kdf.Derive(key, "x", nil) != kdf.Derive(key, "x", []byte{}) {
		t.Error("nil and empty parts are unlike")
	}
	if kdf.Derive(key, "x", nil) == kdf.Derive(key, "x") || kdf.Derive(key, "x", nil) == kdf.Derive(key, "x", nil, nil) {
		t.Error("an empty part is not told")
	}
	if kdf.Derive(key, "x") != kdf.Derive(key, "x", [][]byte{}...) {
		t.Error("no parts are told in two ways")
	}
}

// P5.2: the next chain's key is that of 02 and comes first, the message's that of 01.
func TestStep(t *testing.T) {
	chain := api.Key{}
	for i := range 50 {
		next, message := kdf.Step(chain)
		if next != code(chain[:], []byte{2}) {
			t.Errorf("step %d: the next chain's key is %x", i, next)
		}
		if message != code(chain[:], []byte{1}) {
			t.Errorf("step %d: the message's key is %x", i, message)
		}
		if next == message || next == chain {
			t.Errorf("step %d: keys are alike", i)
		}
		chain = next
	}
}

// R3: neither key nor parts nor info are changed, the room behind them neither, and no part is put in another's place.
func TestHandedIn(t *testing.T) {
	room := drawn(400)
	before := bytes.Clone(room)
	for _, n := range []int{0, 1, 32, 63, 64, 65, 100} {
		a, b, c := room[:n], room[n:2*n], room[2*n:3*n]
		parts := [][]byte{a, b, c, nil}
		kdf.Hmac(a, parts...)
		kdf.Extract(b, a)
		kdf.Derive(api.Key{1}, "label", parts...)
		kdf.Two(api.Key{1}, "label", parts...)
		if _, err := kdf.Expand(api.Key{1}, a, 100); err != api.OK {
			t.Fatal(err)
		}
		if !bytes.Equal(room, before) {
			t.Fatalf("what was handed in was changed, %d bytes each", n)
		}
		for i, part := range [][]byte{a, b, c, nil} {
			if len(parts[i]) != len(part) || len(part) > 0 && &parts[i][0] != &part[0] {
				t.Errorf("part %d was put elsewhere", i)
			}
		}
	}
}

// R3: what is answered may be changed, also behind its end, and what was handed in may be: later answers are the same.
func TestAnswered(t *testing.T) {
	with := []byte("some info")
	for _, n := range []int{0, 1, 32, 33, 64, 8159} {
		b, err := kdf.Expand(api.Key{5}, with, n)
		if err != api.OK {
			t.Fatal(err)
		}
		was := bytes.Clone(b)
		if len(b) != cap(b) {
			t.Errorf("Expand to %d hands out %d bytes more, behind its end", n, cap(b)-len(b))
		}
		for i := range b {
			b[i] ^= 0xff
		}
		_ = append(b, 1, 2, 3)
		again, err := kdf.Expand(api.Key{5}, with, n)
		if err != api.OK || !bytes.Equal(again, was) {
			t.Errorf("Expand to %d once more is other bytes", n)
		}
		for i := range with {
			with[i] ^= 1
		}
		if !bytes.Equal(again, was) {
			t.Errorf("Expand to %d shares info's bytes", n)
		}
		for i := range with {
			with[i] ^= 1
		}
	}
}

// R1: many parts take no more time than their bytes do.
func TestManyParts(t *testing.T) {
	parts := make([][]byte, 200000)
	for i := range parts {
		parts[i] = []byte{byte(i)}
	}
	if kdf.Hmac(nil, parts...) != code(nil, bytes.Join(parts, nil)) {
		t.Error("Hmac of many parts")
	}
	if got := kdf.Derive(api.Key{}, "many", parts...); got != api.Key(spreadTo(t, api.Key{}, info("many", parts...), 32)) {
		t.Errorf("Derive of many parts: %x", got)
	}
}
