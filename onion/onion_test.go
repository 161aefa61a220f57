package onion_test

import (
	"bytes"
	"encoding/binary"
	"encoding/hex"
	"math"
	"math/big"
	"slices"
	"testing"

	"hollowtree/aead"
	"hollowtree/api"
	"hollowtree/curve"
	"hollowtree/kdf"
	"hollowtree/onion"
)

// text is n bytes, others for each kind; neither the first nor the last one is a nought.
func text(kind, n int) []byte {
	b := make([]byte, n)
	for i := range b {
		b[i] = byte(i*i + 31*i*kind + 5*kind + i>>6)
	}
	if n > 0 {
		b[0] |= 1
		b[n-1] |= 2
	}
	return b
}

func times(n int, c byte) []byte { return bytes.Repeat([]byte{c}, n) }

func low64(x uint64) []byte { return binary.LittleEndian.AppendUint64(nil, x) }

// secrets are those of n servers, onces as many one-time secrets; all are unlike.
func secrets(n int) []api.Key { return keysFrom(1, n) }

func onces(n int) []api.Key { return keysFrom(11, n) }

func keysFrom(kind, n int) []api.Key {
	var list []api.Key
	for i := range n {
		list = append(list, api.Key(text(kind+i, 32)))
	}
	return list
}

func publics(secrets []api.Key) []api.Key {
	var list []api.Key
	for _, secret := range secrets {
		list = append(list, curve.Public(secret))
	}
	return list
}

// rounds are at the edges, and such as tell the order of a number's bytes.
func rounds() []uint64 {
	return []uint64{0, 1, 2, 7, 8, 256, 1 << 32, 1 << 56, 0x0807060504030201, math.MaxUint64 - 1, math.MaxUint64}
}

// sizes are those of payloads and replies: none, one byte, about a tag, a block and a layer, those of a sealed envelope and an exchange, and more.
func sizes() []int { return []int{0, 1, 15, 16, 17, 47, 48, 49, 64, 130, 146, 147, 1000} }

// lowKeys are the five places of chapter 3, in all their writings: with p added, where that is below 2^255, and with the highest bit.
func lowKeys() []api.Key {
	power := new(big.Int).Lsh(big.NewInt(1), 255)
	p := new(big.Int).Sub(power, big.NewInt(19))
	var list []api.Key
	for _, digits := range []string{
		"0", "1", new(big.Int).Sub(p, big.NewInt(1)).String(),
		"325606250916557431795983626356110631294008115727848805560023387167927233504",
		"39382357235489614581723060781553021112529911719440698176882885853963445705823",
	} {
		x, _ := new(big.Int).SetString(digits, 10)
		for _, y := range []*big.Int{x, new(big.Int).Add(x, p)} {
			if y.Cmp(power) < 0 {
				list = append(list, keyOf(y), keyOf(new(big.Int).Add(y, power)))
			}
		}
	}
	return list
}

// keyOf is a number's key, the lowest byte first.
func keyOf(x *big.Int) api.Key {
	var k api.Key
	x.FillBytes(k[:])
	slices.Reverse(k[:])
	return k
}

// The words of the chapter, said by the layers below.
func shareOf(secret, public api.Key) api.Key {
	share, _ := curve.Agree(secret, public)
	return share
}

func sealedOf(round uint64, share api.Key, label string, b []byte) []byte {
	return aead.Seal(kdf.Derive(share, label, low64(round)), aead.Count(0), nil, b)
}

func layerOf(round uint64, once, hop api.Key, b []byte) []byte {
	public := curve.Public(once)
	return append(public[:], sealedOf(round, shareOf(once, hop), "out", b)...)
}

// onionOf is the first server's layer around the onion for those behind it.
func onionOf(round uint64, hops, once []api.Key, payload []byte) []byte {
	if len(hops) == 0 {
		return payload
	}
	return layerOf(round, once[0], hops[0], onionOf(round, hops[1:], once[1:], payload))
}

func sharesOf(hops, once []api.Key) []api.Key {
	var list []api.Key
	for i := range hops {
		list = append(list, shareOf(once[i], hops[i]))
	}
	return list
}

// builds holds what Build answers against the chapter's words, and hands it on.
func builds(t *testing.T, round uint64, hops, once []api.Key, payload []byte) ([]byte, []api.Key) {
	t.Helper()
	b, shares, err := onion.Build(round, hops, once, payload)
	if err != api.OK || !bytes.Equal(b, onionOf(round, hops, once, payload)) || !slices.Equal(shares, sharesOf(hops, once)) {
		t.Errorf("Build in round %d for %x by %x of % x: % x, %x, %d", round, hops, once, payload, b, shares, err)
	}
	return b, shares
}

// buildsNot looks for an error, and nothing beside it.
func buildsNot(t *testing.T, round uint64, hops, once []api.Key, payload []byte, want api.Errno) {
	t.Helper()
	if b, shares, err := onion.Build(round, hops, once, payload); err != want || len(b) != 0 || len(shares) != 0 {
		t.Errorf("Build in round %d for %x by %x: % x, %x, %d; not %d", round, hops, once, b, shares, err, want)
	}
}

func peels(t *testing.T, what string, round uint64, secret api.Key, b, want []byte, wantShare api.Key) {
	t.Helper()
	if within, share, err := onion.Peel(round, secret, b); err != api.OK || !bytes.Equal(within, want) || share != wantShare {
		t.Errorf("%s: Peel in round %d by %x: % x, %x, %d; not % x, %x", what, round, secret, within, share, err, want, wantShare)
	}
}

func peelsNot(t *testing.T, what string, round uint64, secret api.Key, b []byte, want api.Errno) {
	t.Helper()
	if within, share, err := onion.Peel(round, secret, b); err != want || len(within) != 0 || share != (api.Key{}) {
		t.Errorf("%s: Peel in round %d by %x: % x, %x, %d; not %d", what, round, secret, within, share, err, want)
	}
}

func unwraps(t *testing.T, what string, round uint64, shares []api.Key, reply, want []byte) {
	t.Helper()
	if b, err := onion.Unwrap(round, shares, reply); err != api.OK || !bytes.Equal(b, want) {
		t.Errorf("%s: Unwrap in round %d by %x: % x, %d; not % x", what, round, shares, b, err, want)
	}
}

func unwrapsNot(t *testing.T, what string, round uint64, shares []api.Key, reply []byte) {
	t.Helper()
	if b, err := onion.Unwrap(round, shares, reply); err != api.ErrAuth || len(b) != 0 {
		t.Errorf("%s: Unwrap in round %d by %x: % x, %d", what, round, shares, b, err)
	}
}

// digits are bytes to the base 16.
func digits(t *testing.T, s string) []byte {
	t.Helper()
	b, err := hex.DecodeString(s)
	if err != nil {
		t.Fatal(err)
	}
	return b
}

// P15.1 to P15.3: the chapter's examples, row by row.
func TestExamples(t *testing.T) {
	s, o, payload := secrets(2), onces(2), text(9, 130)
	p := publics(s)
	b, shares, err := onion.Build(7, p, o, payload)
	if err != api.OK || len(b) != 226 || len(shares) != 2 {
		t.Fatalf("Build: %d bytes, %d shares, %d", len(b), len(shares), err)
	}
	within, share, err := onion.Peel(7, s[0], b)
	if err != api.OK || len(within) != 178 || share != shares[0] {
		t.Errorf("Peel: %d bytes, %x, %d", len(within), share, err)
	}
	peels(t, "what stands within", 7, s[1], within, payload, shares[1])
	peelsNot(t, "another round", 8, s[0], b, api.ErrAuth)
	peelsNot(t, "another secret", 7, s[1], b, api.ErrAuth)
	peelsNot(t, "47 bytes", 7, s[0], b[:47], api.ErrSize)
	for _, x := range [][]byte{nil, []byte("x"), text(3, 130)} {
		unwraps(t, "two wraps", 7, shares, onion.Wrap(7, shares[0], onion.Wrap(7, shares[1], x)), x)
	}
	buildsNot(t, 7, p[:1], nil, payload, api.ErrArg)
	buildsNot(t, 7, []api.Key{{}}, o[:1], payload, api.ErrLow)
}
