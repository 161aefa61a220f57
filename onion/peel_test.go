package onion_test

import (
	"bytes"
	"encoding/binary"
	"fmt"
	"math/big"
	"slices"
	"testing"

	"hollowtree/aead"
	"hollowtree/api"
	"hollowtree/curve"
	"hollowtree/kdf"
)

// handMade is a layer with a key of one's choice ahead of bytes, sealed for who has the secret.
func handMade(round uint64, secret, public api.Key, b []byte) []byte {
	return append(bytes.Clone(public[:]), sealedOf(round, shareOf(secret, public), "out", b)...)
}

// P15.2: what stands within, and the share, of layers of all sizes and rounds.
func TestPeel(t *testing.T) {
	secret, once := secrets(1)[0], onces(1)[0]
	hop := curve.Public(secret)
	share := shareOf(once, hop)
	for _, size := range sizes() {
		peels(t, fmt.Sprint(size, " bytes"), 7, secret, layerOf(7, once, hop, text(9, size)), text(9, size), share)
	}
	for _, round := range rounds() {
		peels(t, "an exchange", round, secret, layerOf(round, once, hop, text(9, 146)), text(9, 146), share)
	}
	peels(t, "many bytes", 7, secret, layerOf(7, once, hop, text(9, 70001)), text(9, 70001), share)
}

// P15.2: whichever secret, and keys that Build never lays: small places, written with p added and with the highest bit.
func TestPeelAnyKey(t *testing.T) {
	for _, secret := range []api.Key{{}, {1}, api.Key(times(32, 0xff)), secrets(1)[0]} {
		for _, public := range []api.Key{{2}, {9}, {18}, {9, 31: 0x80}, api.Key(times(32, 0xff)), {31: 0x7f}, nineAndPrime()} {
			b := handMade(7, secret, public, text(9, 20))
			peels(t, fmt.Sprintf("the key %x", public), 7, secret, b, text(9, 20), shareOf(secret, public))
		}
	}
}

// nineAndPrime is the place 9, with p added.
func nineAndPrime() api.Key {
	k := api.Key(times(32, 0xff))
	k[0], k[31] = 0xf6, 0x7f
	return k
}

// P15.2: fewer bytes than HopSize, whichever; a low key among them (R2).
func TestPeelShort(t *testing.T) {
	secret := secrets(1)[0]
	right := layerOf(7, onces(1)[0], curve.Public(secret), nil)
	peelsNot(t, "nil", 7, secret, nil, api.ErrSize)
	peelsNot(t, "no bytes", 7, secret, []byte{}, api.ErrSize)
	for n := range 48 {
		for _, b := range [][]byte{right, times(48, 0), times(48, 0xff), text(3, 48)} {
			peelsNot(t, fmt.Sprint(n, " bytes"), 7, secret, b[:n], api.ErrSize)
			peelsNot(t, fmt.Sprint("the last ", n, " bytes"), 7, secret, b[48-n:], api.ErrSize)
		}
	}
	for _, low := range lowKeys() {
		peelsNot(t, "a low key and 15 bytes", 7, secret, append(low[:], times(15, 0)...), api.ErrSize)
	}
}

// P15.2: HopSize bytes are enough: of no bytes, sealed, there is nothing within; of others nothing was sealed.
func TestPeelHopSize(t *testing.T) {
	secret, once := secrets(1)[0], onces(1)[0]
	hop := curve.Public(secret)
	b := layerOf(7, once, hop, nil)
	if len(b) != api.HopSize {
		t.Fatalf("%d bytes", len(b))
	}
	peels(t, "no bytes", 7, secret, b, nil, shareOf(once, hop))
	peelsNot(t, "bytes of one kind", 7, secret, times(48, 5), api.ErrAuth)
	peelsNot(t, "other bytes", 7, secret, text(4, 48), api.ErrAuth)
	peelsNot(t, "the key alone is right", 7, secret, append(b[:32:32], times(16, 0)...), api.ErrAuth)
}

// P15.2: each low key ahead of whatever: also ahead of what is sealed by the share of noughts, and ahead of what was sealed by the right one.
func TestPeelLow(t *testing.T) {
	secret := secrets(1)[0]
	right := layerOf(7, onces(1)[0], curve.Public(secret), text(9, 20))
	for _, low := range lowKeys() {
		for _, behind := range [][]byte{times(16, 0), text(2, 16), text(2, 162), sealedOf(7, api.Key{}, "out", text(9, 20)), right[32:]} {
			for _, s := range []api.Key{secret, {}, api.Key(times(32, 0xff))} {
				peelsNot(t, fmt.Sprintf("the low key %x", low), 7, s, append(low[:], behind...), api.ErrLow)
			}
		}
	}
}

// P15.2, P15.4: an onion of each round in each other one.
func TestPeelRound(t *testing.T) {
	secret, once := secrets(1)[0], onces(1)[0]
	for _, round := range rounds() {
		b := layerOf(round, once, curve.Public(secret), text(9, 20))
		others := append(rounds(), round+1, round-1, round^1<<63, round^0xff)
		for _, other := range others {
			if other != round {
				peelsNot(t, fmt.Sprint("an onion of round ", round), other, secret, b, api.ErrAuth)
			}
		}
	}
}

// P15.2, P15.4: each bit of the secret counts but for those that are clamped, by which the public key is the same.
func TestPeelSecret(t *testing.T) {
	secret, once := secrets(1)[0], onces(1)[0]
	hop := curve.Public(secret)
	b := layerOf(7, once, hop, text(9, 20))
	for bit := range 256 {
		other := secret
		other[bit/8] ^= 1 << (bit % 8)
		if bit < 3 || bit > 253 {
			peels(t, fmt.Sprint("bit ", bit, " turned"), 7, other, b, text(9, 20), shareOf(once, hop))
		} else {
			peelsNot(t, fmt.Sprint("bit ", bit, " turned"), 7, other, b, api.ErrAuth)
		}
	}
	for _, other := range append(secrets(4)[1:], once, hop, shareOf(once, hop), api.Key{}, api.Key(times(32, 0xff))) {
		peelsNot(t, "another secret", 7, other, b, api.ErrAuth)
	}
}

// P15.4: by another secret of the same public key it is peeled: two clamped numbers that come to 0 together, modulo eight times the base's order, have one.
func TestPeelSamePublicKey(t *testing.T) {
	order, _ := new(big.Int).SetString("27742317777372353535851937790883648493", 10)
	order.Add(order, new(big.Int).Lsh(big.NewInt(1), 252))
	whole := new(big.Int).Lsh(order, 3)
	other := keyOf(whole.Sub(whole, new(big.Int).Lsh(big.NewInt(1), 254)))
	hop := curve.Public(api.Key{})
	if curve.Clamp(other) != other || curve.Clamp(api.Key{}) == other || curve.Public(other) != hop {
		t.Fatalf("%x is no such secret", other)
	}
	once := onces(1)[0]
	b := layerOf(7, once, hop, text(9, 20))
	peels(t, "the one secret", 7, api.Key{}, b, text(9, 20), shareOf(once, hop))
	peels(t, "the other one", 7, other, b, text(9, 20), shareOf(once, hop))
}

// keyTop is the place of the byte whose highest bit counts for nothing in a key (3): with it turned the share is the same, and what follows was sealed with its key.
const keyTop = 31

// changes holds an onion with one byte changed to what P15.2 says of it.
func changes(t *testing.T, b []byte, at int, c byte, secret, share api.Key, within []byte) {
	t.Helper()
	other := bytes.Clone(b)
	other[at] = c
	what := fmt.Sprintf("byte %d of %d: %x, not %x", at, len(b), c, b[at])
	switch {
	case c == b[at] || at == keyTop && c == b[at]^0x80:
		peels(t, what, 7, secret, other, within, share)
	default:
		peelsNot(t, what, 7, secret, other, api.ErrAuth)
	}
}

// P15.2, P15.4: each byte changed, of onions for 1 to MaxHops servers.
func TestPeelEachByteChanged(t *testing.T) {
	for n := 1; n <= 3; n++ {
		hops := publics(secrets(n))
		b := onionOf(7, hops, onces(n), text(9, api.ExchangeSize))
		share := shareOf(onces(n)[0], hops[0])
		within := onionOf(7, hops[1:], onces(n)[1:], text(9, api.ExchangeSize))
		for at := range b {
			for _, c := range []byte{b[at] ^ 1, b[at] ^ 0x80, b[at] ^ 0xff, b[at] + 1} {
				changes(t, b, at, c, secrets(n)[0], share, within)
			}
		}
	}
}

// P15.2, P15.4: each bit of a short onion, and every value of bytes of the key, of what is sealed, and of the tag.
func TestPeelEachBitChanged(t *testing.T) {
	secret, once := secrets(1)[0], onces(1)[0]
	hop := curve.Public(secret)
	b := layerOf(7, once, hop, text(9, 5))
	for at := range b {
		for bit := range 8 {
			changes(t, b, at, b[at]^1<<bit, secret, shareOf(once, hop), text(9, 5))
		}
	}
	for _, at := range []int{0, keyTop, 32, len(b) - 1} {
		for c := range 256 {
			changes(t, b, at, byte(c), secret, shareOf(once, hop), text(9, 5))
		}
	}
}

// P15.2: with bytes too few and too many it is no onion.
func TestPeelLength(t *testing.T) {
	secret := secrets(1)[0]
	b := layerOf(7, onces(1)[0], curve.Public(secret), text(9, 40))
	for n := 1; n <= 60; n++ {
		want := api.ErrAuth
		if len(b)-n < 48 {
			want = api.ErrSize
		}
		peelsNot(t, fmt.Sprint("without the last ", n), 7, secret, b[:len(b)-n], want)
		peelsNot(t, fmt.Sprint("without the first ", n), 7, secret, b[n:], want)
		for _, c := range []byte{0, 5, 0xff} {
			peelsNot(t, fmt.Sprint("with so many behind: ", n), 7, secret, slices.Concat(b, times(n, c)), api.ErrAuth)
			want := api.ErrAuth
			if c == 0 && n >= 32 { // noughts ahead of it are a key themselves, then, and a low one
				want = api.ErrLow
			}
			peelsNot(t, fmt.Sprint("with so many ahead: ", n), 7, secret, slices.Concat(times(n, c), b), want)
		}
	}
}

// P15.2: what was sealed by the share, but not with its key out, that nonce, and no ad.
func TestPeelSealedOtherwise(t *testing.T) {
	secret := secrets(1)[0]
	public := curve.Public(onces(1)[0])
	share := shareOf(secret, public)
	out := kdf.Derive(share, "out", low64(7))
	one, other := kdf.Two(share, "out", low64(7))
	if one != out {
		t.Fatal("Two's first key is another one")
	}
	for name, sealed := range map[string][]byte{
		"the key back":          sealedOf(7, share, "back", text(9, 20)),
		"another label":         sealedOf(7, share, "Out", text(9, 20)),
		"the share itself":      aead.Seal(share, aead.Count(0), nil, text(9, 20)),
		"no round":              aead.Seal(kdf.Derive(share, "out"), aead.Count(0), nil, text(9, 20)),
		"a round of four bytes": aead.Seal(kdf.Derive(share, "out", low64(7)[:4]), aead.Count(0), nil, text(9, 20)),
		"the highest first":     aead.Seal(kdf.Derive(share, "out", binary.BigEndian.AppendUint64(nil, 7)), aead.Count(0), nil, text(9, 20)),
		"a part more":           aead.Seal(kdf.Derive(share, "out", low64(7), nil), aead.Count(0), nil, text(9, 20)),
		"two parts":             aead.Seal(kdf.Derive(share, "out", low64(7)[:4], low64(7)[4:]), aead.Count(0), nil, text(9, 20)),
		"the other of two":      aead.Seal(other, aead.Count(0), nil, text(9, 20)),
		"the nonce 1":           aead.Seal(out, aead.Count(1), nil, text(9, 20)),
		"the round as nonce":    aead.Seal(out, aead.Count(7), nil, text(9, 20)),
		"an ad":                 aead.Seal(out, aead.Count(0), []byte{0}, text(9, 20)),
		"the key as ad":         aead.Seal(out, aead.Count(0), public[:], text(9, 20)),
		"nothing":               text(9, 36),
	} {
		peelsNot(t, name, 7, secret, append(bytes.Clone(public[:]), sealed...), api.ErrAuth)
	}
	peels(t, "as the chapter says", 7, secret, append(public[:], aead.Seal(out, aead.Count(0), nil, text(9, 20))...), text(9, 20), share)
}

// P15.2: a server peels its own layer alone: neither one that stands within, nor what is left at last.
func TestPeelInOrder(t *testing.T) {
	s := secrets(3)
	b := onionOf(7, publics(s), onces(3), text(9, 146))
	for i := range s {
		for j, secret := range s {
			if i != j {
				peelsNot(t, fmt.Sprint("layer ", i, " by server ", j), 7, secret, b, api.ErrAuth)
			}
		}
		b = onionOf(7, publics(s)[i+1:], onces(3)[i+1:], text(9, 146))
	}
	for _, secret := range s {
		peelsNot(t, "the payload", 7, secret, b, api.ErrAuth)
	}
}
