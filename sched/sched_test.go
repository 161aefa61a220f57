package sched_test

import (
	"bytes"
	"encoding/binary"
	"encoding/hex"
	"math"
	"math/rand"
	"testing"

	"hollowtree/aead"
	"hollowtree/api"
	"hollowtree/ident"
	"hollowtree/sched"
	"hollowtree/sha"
)

// keyNo is one of many keys, all unlike.
func keyNo(n int) api.Key { return sha.Sum([]byte{'k', byte(n), byte(n >> 8)}) }

// sides are the two sides of one of many pairs.
func sides(n int) (p, q api.Pair) {
	return api.Pair{Secret: keyNo(n), First: true}, api.Pair{Secret: keyNo(n)}
}

// bothWays are pairs from either side: what goes from the first one to the second one, and the other way about.
func bothWays(n int) [][2]api.Pair {
	p, q := sides(n)
	return [][2]api.Pair{{p, q}, {q, p}}
}

// rounds are at the edges, and such as tell the order of a number's bytes.
func rounds() []uint64 {
	return []uint64{1, 2, 3, 255, 256, 1 << 32, 1 << 56, 0x0807060504030201, math.MaxInt64, 1 << 63, math.MaxUint64 - 1, math.MaxUint64}
}

// filled is a body of one byte.
func filled(c byte) [api.MessageSize]byte {
	return [api.MessageSize]byte(bytes.Repeat([]byte{c}, api.MessageSize))
}

// known is a body whose bytes are all unlike.
func known() [api.MessageSize]byte {
	var body [api.MessageSize]byte
	for i := range body {
		body[i] = byte(7*i + 3)
	}
	return body
}

// envelopes may be, of each kind.
func envelopes() []api.Envelope {
	return []api.Envelope{
		{},
		{Ack: 1},
		{Ack: 0x04030201},
		{Ack: math.MaxUint32},
		{Kind: 1},
		{Kind: 1, Ack: 2, Seq: 3, Body: [api.MessageSize]byte{4}},
		{Kind: 1, Ack: 0x14131211, Seq: 0x24232221, Body: known()},
		{Kind: 1, Seq: 1},
		{Kind: 1, Body: [api.MessageSize]byte{104: 0x80}},
		{Kind: 1, Ack: math.MaxUint32, Seq: math.MaxUint32, Body: filled(0xff)},
	}
}

// drawnEnvelope may be: an idle one, or a text.
func drawnEnvelope(r *rand.Rand) api.Envelope {
	if r.Intn(3) == 0 {
		return api.Envelope{Ack: r.Uint32()}
	}
	e := api.Envelope{Kind: 1, Ack: r.Uint32(), Seq: r.Uint32()}
	r.Read(e.Body[:])
	return e
}

// bytesOf are an envelope's bytes, each laid at its place.
func bytesOf(e api.Envelope) []byte {
	b := make([]byte, 114)
	b[0] = byte(e.Kind)
	binary.LittleEndian.PutUint32(b[1:], e.Ack)
	binary.LittleEndian.PutUint32(b[5:], e.Seq)
	copy(b[9:], e.Body[:])
	return b
}

// count is a round's nonce, by the words of chapter 8.
func count(round uint64) api.Nonce {
	var n api.Nonce
	binary.LittleEndian.PutUint64(n[4:], round)
	return n
}

// sent is some bytes as p's side seals them in a round, whatever they are, by the chapter's words.
func sent(p api.Pair, round uint64, plain []byte) []byte {
	drop := ident.Drop(p, round)
	return aead.Seal(ident.RoundKey(p, round, true), count(round), drop[:], plain)
}

// turned is a copy of b with one bit turned.
func turned(b []byte, bit int) []byte {
	b = bytes.Clone(b)
	b[bit/8] ^= 1 << (bit % 8)
	return b
}

// makes looks for the real exchange, and hands it on.
func makes(t *testing.T, p api.Pair, round uint64, e api.Envelope) api.Exchange {
	t.Helper()
	x, err := sched.Real(p, round, e)
	want := api.Exchange{Drop: ident.Drop(p, round), Body: [130]byte(sent(p, round, bytesOf(e)))}
	if err != api.OK || x != want {
		t.Errorf("Real of %v in %d: %x, %d; not %x", p, round, x, err, want)
	}
	return x
}

// makesNot looks for an error, and nothing beside it.
func makesNot(t *testing.T, p api.Pair, round uint64, e api.Envelope, want api.Errno) {
	t.Helper()
	if x, err := sched.Real(p, round, e); err != want || x != (api.Exchange{}) {
		t.Errorf("Real of %v in %d: %x, %d; not %d", e, round, x, err, want)
	}
}

// reads looks for an envelope.
func reads(t *testing.T, p api.Pair, round uint64, reply []byte, want api.Envelope) {
	t.Helper()
	if e, err := sched.Read(p, round, reply); err != api.OK || e != want {
		t.Errorf("Read of %x in %d: %v, %d; not %v", reply, round, e, err, want)
	}
}

// readsNot looks for an error, and nothing beside it.
func readsNot(t *testing.T, what string, p api.Pair, round uint64, reply []byte, want api.Errno) {
	t.Helper()
	if e, err := sched.Read(p, round, reply); err != want || e != (api.Envelope{}) {
		t.Errorf("Read of %s in %d: %v, %d; not %d", what, round, e, err, want)
	}
}

// P19.1, P19.2: the chapter's examples, row by row, for either side and envelopes of each kind.
func TestExamples(t *testing.T) {
	for _, way := range bothWays(1) {
		for _, e := range envelopes() {
			p, q := way[0], way[1]
			x, err := sched.Real(p, 3, e)
			if err != api.OK {
				t.Fatalf("Real: %d", err)
			}
			reads(t, q, 3, x.Body[:], e)

			readsNot(t, "it", q, 4, x.Body[:], api.ErrAuth)
			readsNot(t, "one's own", p, 3, x.Body[:], api.ErrAuth)
			readsNot(t, "the empty reply", q, 3, sched.Empty(), api.ErrNobody)

			makesNot(t, p, 0, e, api.ErrRound)
			if x, err := sched.Cover(nil); err != api.ErrNil || x != (api.Exchange{}) {
				t.Errorf("Cover(nil): %x, %d", x, err)
			}
			readsNot(t, "129 bytes", q, 3, x.Body[:129], api.ErrSize)
			readsNot(t, "129 noughts", q, 3, make([]byte, 129), api.ErrSize)
		}
	}
}

// made is an exchange that another program made by the chapter's words.
type made struct {
	round      uint64
	first      bool
	kind       int
	drop, body string
}

// elsewhere are exchanges of the pair's secret 01 02 .. 20: an idle envelope with the Ack 04030201, and a text with the Ack 14131211, the Seq 24232221 and the known body (numbers to the base 16).
func elsewhere() []made {
	return []made{
		{1, true, 0, "bd6430d72befb7379c154f37136f6d5c", "ca0a34a3cabcda4d439190a653b6b6635029eb50384d405bb784715b4d5333b75aa2c466e7cfbbda315fb7c9113a557246ef8313365e15031a65f71aaece095a0f76440b682c0d7aeec469a13f808e16c7cc6fd70fd2444d200ab4f148a386ff7d8973cec494486dd4c5f665f62f0675738f2cb14ff49385eb4bfd332d6bb4258bb3"},
		{1, true, 1, "bd6430d72befb7379c154f37136f6d5c", "cb1a24b3da9df86e67929ab74ba9904e6412a919681a1e3edbf70bdac5dca52afe0976df2708750fedbc5d38e9c5537f52f4a13a06692b465636ad7bc6a17f278bfdd692c88ba3cf5207a370e75f68fb33376dde1fc55a680c398eb000ecd0a219e201b74413c6f848665cd44e90c0b8a754b96bb52a87fd65f5c57332ff07f5c77f"},
		{1, false, 0, "bd6430d72befb7379c154f37136f6d5c", "c7b9434f1574ebebd134e08c2e5f128e375025296182fbeddfc83373195d1f4a60228ea99cd23868b4923eb87cd62e65f6d5b73419b4801908b6c50c2f63ed3d587e957fd60711bd4a59751e32471c8c53cd81bccb7b159f133b280ba81349891580dbcc23fcc8e05ebb74dc4d24f07515a039c0ef9882353e38a1048650e7b2b514"},
		{1, false, 1, "bd6430d72befb7379c154f37136f6d5c", "c6a9535f0555c9c8f537ea9d364034a3036b676031d5a588b3bb49f291d289d7c4893c105c15f6bd6871d44984292868e2ce951d2983be5c44e59f6d470c9b40dcf507e676a0bf08f69abfcfea98fa61a73683b5db6c0bba3f08124ae05c1fd471eba9b5a37b4675c218de6df59b36b8c17b30be37e46656755dc80bc1d76f09d2b1"},
		{0x0807060504030201, true, 0, "b8c13df8f4a4689a0a99235ab04647c6", "9fbf1168156af0ac6e6e83814d60cfb5c377dc00bd65d6a8be9ff1fcae01163e7f99ece1ff7c938069a2980b22405b284d984de7ec9078d753464c1537aa698fe98633a156e87783954c33d416a49429c689f4ab8d997dc1d36f836d475ffda12b4d5684a788161bd44e76b67300b7bfe3f5a68d934ce533ceb11e7b7a87837adfb6"},
		{0x0807060504030201, true, 1, "b8c13df8f4a4689a0a99235ab04647c6", "9eaf0178054bd28f4a6d8990557fe998f74c9e49ed3288cdd2ec8b7d268e80a3db325e583fbb5d55b54172fadabf5d2559836fcedca746921f1516745fc51ff26d0da138f64fd936298ff905ce7b72c43272f6a29d8e63e4ff5cb92c0f10abfc4f2624fd270f988e48eddc07cbbf7172372e0d66cc5b6b255fe75103eb64608e17b3"},
		{0x0807060504030201, false, 0, "b8c13df8f4a4689a0a99235ab04647c6", "b0a0728bc962e31879fe967acb1e0a8504346bb73c321f2a088bdd45dade4b143d3b98d62602af6f19741f3662471619fbe8445cc68c35f9cda575feea591c549acf48d2cef1e716817803ff858a675d24f84f02af6452c9959c65fe4b47d1268772eb42b6e7965a91b205b2ad844213aef70dc10d69216e9ceec3ab713f792f6900"},
		{0x0807060504030201, false, 1, "b8c13df8f4a4689a0a99235ab04647c6", "b1b0629bd943c13b5dfd9c6bd3012ca8300f29fe6c65414f64f8a7c45251dd8999902a6fe6c561bac597f5c79ab81014eff36675f6bb0bbc81f62f9f82366a291e44da4b6e5649a33dbbc92e5d5581b0d0034d0bbf734cecb9af5fbf0308877be319993b366018cf0d11af03153b84de7a2c22d12cf9af634bba6e4efb62cb28fb07"},
		{math.MaxUint64, true, 0, "e1ae4ed00cccb50a03fbd9823d1562fa", "9eab543ca3dc55df5acaa20b5a01fbae239225e44a1eb3e10541dd38f2768cca87c30d7932f86f804258dfcb028f23aa0e91d84fe52eff3ee80edfc3ca078c2afc7ba4ee0879d9dd3ff47bf346a3653846100aa0e25a05e12f4288bc96bf9c6a03ee539aac67abb9ba2032c6abcc412cf81798e5da5ccdc96ba515c7077f4dffedc5"},
		{math.MaxUint64, true, 1, "e1ae4ed00cccb50a03fbd9823d1562fa", "9fbb442cb3fd77fc7ec9a81a421edd8317a967ad1a49ed846932a7b97af91a572368bfc0f23fa1559ebb353afa7025a71a8afa66d519c17ba45d85a2a268fa5778f03677a8de77688337b1229e7c83d5b2eb08a9f24d1bc40371b2fddef0ca37678521e32ce0252c26839877137387e12ccc0602ac233c2fa37ecb74037cd992eddc"},
		{math.MaxUint64, false, 0, "e1ae4ed00cccb50a03fbd9823d1562fa", "c39702e60e6f5e74435942799b51814c27c0103fd729a875ad00e857231e4296cc4ae4c9c97bf4b154eb28740d7161450d5672307ee79b55ee50a04e8062b41dcbbaece9e7a162bee55c8bf37f2c032b2fa7acaabf6155df0c4732fe687f1498be42a17acf275b6c47cc02fe6e57cf01cf40d4e22fcc0f296023e8821b62992ffef6"},
		{math.MaxUint64, false, 1, "e1ae4ed00cccb50a03fbd9823d1562fa", "c28712f61e4e7c57675a4868834ea76113fb5276877ef610c17392d6ab91d40b68e1567009bc3a648808c285f58e6748194d50194ed0a510a203fa2fe80dc2604f317e704706cc0b599f4122a7f3e5c6db5caea3af764bfa207408bf203042c5da29d3034fa0d5f9db6fa84fd6e809cc1b9b26421ef93d73fab13b1d80af5878fb2c"},
	}
}

// P19.1, P19.2: what another program made (its HMAC and SHA-256 Python's library's, its ChaCha20-Poly1305 OpenSSL's) is made, and read by the other side.
func TestElsewhere(t *testing.T) {
	var secret api.Key
	for i := range secret {
		secret[i] = byte(i + 1)
	}
	for _, m := range elsewhere() {
		e := api.Envelope{Ack: 0x04030201}
		if m.kind == 1 {
			e = api.Envelope{Kind: 1, Ack: 0x14131211, Seq: 0x24232221, Body: known()}
		}
		x, err := sched.Real(api.Pair{Secret: secret, First: m.first}, m.round, e)
		if err != api.OK || hex.EncodeToString(x.Drop[:]) != m.drop || hex.EncodeToString(x.Body[:]) != m.body {
			t.Errorf("Real in %d, first %v, kind %d: %x, %x, %d", m.round, m.first, m.kind, x.Drop, x.Body, err)
		}
		body, _ := hex.DecodeString(m.body)
		reads(t, api.Pair{Secret: secret, First: !m.first}, m.round, body, e)
		readsNot(t, "one's own", api.Pair{Secret: secret, First: m.first}, m.round, body, api.ErrAuth)
	}
}

// R5: what is asked twice is answered twice the same, whatever was asked between.
func TestTwice(t *testing.T) {
	p, q := sides(2)
	for _, e := range envelopes() {
		one := makes(t, p, 7, e)
		makes(t, p, 8, e)
		makes(t, q, 7, e)
		makesNot(t, p, 7, api.Envelope{Kind: 2}, api.ErrField)
		if other := makes(t, p, 7, e); one != other {
			t.Errorf("%x, then %x", one, other)
		}
		for range 3 {
			reads(t, q, 7, one.Body[:], e)
			readsNot(t, "one's own", p, 7, one.Body[:], api.ErrAuth)
		}
	}
}
