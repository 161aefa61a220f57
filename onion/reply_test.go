package onion_test

import (
	"bytes"
	"encoding/binary"
	"encoding/hex"
	"fmt"
	"math"
	"slices"
	"testing"

	"hollowtree/aead"
	"hollowtree/api"
	"hollowtree/kdf"
	"hollowtree/onion"
)

// someShares are n of them, all unlike.
func someShares(n int) []api.Key { return keysFrom(31, n) }

// wrappedOf is a reply, wrapped from the last share's server to the first one's, by the chapter's words.
func wrappedOf(round uint64, shares []api.Key, reply []byte) []byte {
	for _, share := range slices.Backward(shares) {
		reply = sealedOf(round, share, "back", reply)
	}
	return reply
}

// P15.3: keys that another program made by the chapter's words.
func TestKnownKeys(t *testing.T) {
	share := api.Key(text(5, 32))
	for _, x := range []struct {
		round     uint64
		out, back string
	}{
		{0, "6f6ff24fca7b4eff1ab9f928552339ec4179a00eb3c48733d179b14e3811d965", "3a83ad5bad357b6278ee6aa240bd1a911f872d040897fc3874b5080365d388d7"},
		{1, "d179efd041b3fdfd729fd8bbcc5c9563adb1caeb6a3aff631b374fefda31d7d9", "3ff20bd5664f67eccc7908af13644e7fa2f3ac6abfb7ec5cca948cf38c9bcd37"},
		{7, "516420e8d13fe32dc16d312abb50d7eb63f425144bd2faaa4d4d4cb23dfc1b73", "29c397dfd10f4c11ef348741000da84f6f039fb6bf9f366bce59da634d10e85e"},
		{0x0807060504030201, "7c9e24fb69e749e4940780cf1826ea2776b40f7080650ff3651486282051fab6", "9e7f4377e2fa8b43b934501605aa892c2ecfb08ed8b8c7c15947dfb14870226c"},
		{math.MaxUint64, "2ba2d2db671057432d0ba0e7ddcc2366576ce85a9b75d91b3156a268e7512e4b", "f202308a84e5b1d4903d67fa5e59f741685b89c1e3d894115ae944694c54383c"},
	} {
		out, back := onion.Keys(x.round, share)
		if hex.EncodeToString(out[:]) != x.out || hex.EncodeToString(back[:]) != x.back {
			t.Errorf("Keys in round %d: %x, %x", x.round, out, back)
		}
	}
}

// P15.3: the keys of shares in rounds, byte for byte, and no two of them alike.
func TestKeys(t *testing.T) {
	seen := map[api.Key]bool{}
	for _, share := range append(someShares(4), api.Key{}, api.Key{1}, api.Key{31: 0x80}, api.Key(times(32, 0xff))) {
		for _, round := range rounds() {
			part := binary.LittleEndian.AppendUint64(nil, round)
			out, back := onion.Keys(round, share)
			if out != kdf.Derive(share, "out", part) || back != kdf.Derive(share, "back", part) {
				t.Errorf("Keys in round %d of %x: %x, %x", round, share, out, back)
			}
			if seen[out] || seen[back] || out == back {
				t.Errorf("Keys in round %d of %x are others' keys", round, share)
			}
			seen[out], seen[back] = true, true
		}
	}
}

// P15.3: replies that another program wrapped by the chapter's words.
func TestKnownWraps(t *testing.T) {
	share := api.Key(text(5, 32))
	for _, x := range []struct {
		round       uint64
		reply, want string
	}{
		{0, "", "76606f633377c7131b4fe24896775531"},
		{0, "reply", "f26740516c86f20bbeb2c1ae93612bb71294760a5e"},
		{1, "", "8365b0eacac4f265086539edc77861a4"},
		{1, "reply", "9fdf0390a77a477b38220a4e6901db12bb9a683069"},
		{math.MaxUint64, "", "7cb06e374e45099a1984abfa8101e17a"},
		{math.MaxUint64, "reply", "600fc383c2cd222bd4ab335a587d1d0d273f42800c"},
	} {
		if got := hex.EncodeToString(onion.Wrap(x.round, share, []byte(x.reply))); got != x.want {
			t.Errorf("Wrap in round %d of %q: %s", x.round, x.reply, got)
		}
		unwraps(t, "a known one", x.round, []api.Key{share}, digits(t, x.want), []byte(x.reply))
	}
}

// P15.3: replies of all sizes, of nil and of no bytes, in all rounds, by whatever share.
func TestWrap(t *testing.T) {
	for _, share := range append(someShares(2), api.Key{}, api.Key(times(32, 0xff))) {
		for _, round := range rounds() {
			for _, size := range append(sizes(), 162, 178, 70001) {
				reply := text(3, size)
				b := onion.Wrap(round, share, reply)
				if len(b) != size+16 || !bytes.Equal(b, sealedOf(round, share, "back", reply)) {
					t.Errorf("Wrap in round %d of %d bytes: % x", round, size, b)
				}
				unwraps(t, "one wrap", round, []api.Key{share}, b, reply)
			}
			for _, reply := range [][]byte{nil, {}} {
				if b := onion.Wrap(round, share, reply); !bytes.Equal(b, sealedOf(round, share, "back", nil)) {
					t.Errorf("Wrap in round %d of nothing: % x", round, b)
				}
			}
		}
	}
}

// P15.3: of no shares it is the reply, whatever it says.
func TestUnwrapNoShares(t *testing.T) {
	for _, shares := range [][]api.Key{nil, {}, someShares(2)[2:]} {
		for _, round := range rounds() {
			for _, reply := range [][]byte{nil, {}, {7}, text(3, 15), text(3, 16), text(3, 146), wrappedOf(round, someShares(1), text(3, 20))} {
				unwraps(t, "no shares", round, shares, reply, reply)
			}
		}
	}
}

// P15.3: of one share, of several, and of more than there are servers: no limit is named for them.
func TestUnwrap(t *testing.T) {
	for _, n := range []int{1, 2, 3, 4, 5, 20} {
		for _, round := range rounds() {
			for _, size := range sizes() {
				unwraps(t, fmt.Sprint(n, " wraps"), round, someShares(n), wrappedOf(round, someShares(n), text(3, size)), text(3, size))
			}
		}
		same := slices.Repeat(someShares(1), n)
		unwraps(t, "one share several times", 7, same, wrappedOf(7, same, text(3, 130)), text(3, 130))
	}
}

// P15.3: by the first shares alone it is unwrapped so far; by one share more it is refused; by others too.
func TestUnwrapOtherShares(t *testing.T) {
	shares := someShares(3)
	for _, size := range []int{0, 5, 15, 16, 130} {
		b := wrappedOf(7, shares, text(3, size))
		for n := range 4 {
			unwraps(t, fmt.Sprint("the first ", n), 7, shares[:n], b, wrappedOf(7, shares[n:], text(3, size)))
		}
		unwrapsNot(t, "one share more, behind", 7, someShares(4), b)
		unwrapsNot(t, "one share more, ahead", 7, append(someShares(4)[3:], shares...), b)
		unwrapsNot(t, "without the first one", 7, shares[1:], b)
		for i := range shares {
			for bit := range 256 {
				others := slices.Clone(shares)
				others[i][bit/8] ^= 1 << (bit % 8)
				unwrapsNot(t, fmt.Sprint("share ", i, " with bit ", bit, " turned"), 7, others, b)
			}
		}
	}
}

// P15.3: by the shares in another order it is refused.
func TestUnwrapOrder(t *testing.T) {
	shares := someShares(3)
	b := wrappedOf(7, shares, text(3, 130))
	for _, order := range [][]int{{0, 2, 1}, {1, 0, 2}, {1, 2, 0}, {2, 0, 1}, {2, 1, 0}} {
		unwrapsNot(t, fmt.Sprint("the order ", order), 7, []api.Key{shares[order[0]], shares[order[1]], shares[order[2]]}, b)
	}
	two := wrappedOf(7, shares[:2], text(3, 130))
	unwrapsNot(t, "two, turned about", 7, []api.Key{shares[1], shares[0]}, two)
}

// P15.3: what is too short for a tag, at the beginning and behind each share.
func TestUnwrapShort(t *testing.T) {
	shares := someShares(3)
	for n := 1; n <= 3; n++ {
		unwrapsNot(t, "nil", 7, shares[:n], nil)
		for size := range 16 {
			for _, b := range [][]byte{times(size, 0), text(3, size), wrappedOf(7, shares[:1], nil)[:size]} {
				unwrapsNot(t, fmt.Sprint(size, " bytes"), 7, shares[:n], b)
				for m := range n {
					unwrapsNot(t, fmt.Sprint(size, " bytes behind ", m, " shares"), 7, shares[:n], wrappedOf(7, shares[:m], b))
				}
			}
		}
		for m := range n {
			for _, b := range [][]byte{times(16, 0), text(3, 16), text(3, 130)} {
				unwrapsNot(t, fmt.Sprint("what was not sealed, behind ", m, " shares"), 7, shares[:n], wrappedOf(7, shares[:m], b))
			}
		}
	}
}

// P15.3, P15.4: each bit changed, bytes too few and too many.
func TestUnwrapChanged(t *testing.T) {
	for n := 1; n <= 3; n++ {
		shares := someShares(n)
		b := wrappedOf(7, shares, text(3, 130))
		for i := range 8 * len(b) {
			other := bytes.Clone(b)
			other[i/8] ^= 1 << (i % 8)
			unwrapsNot(t, fmt.Sprint("bit ", i, " turned"), 7, shares, other)
		}
		for cut := 1; cut <= len(b); cut++ {
			unwrapsNot(t, fmt.Sprint("without the last ", cut), 7, shares, b[:len(b)-cut])
			unwrapsNot(t, fmt.Sprint("without the first ", cut), 7, shares, b[cut:])
			unwrapsNot(t, fmt.Sprint("with so many behind: ", cut), 7, shares, append(bytes.Clone(b), text(2, cut)...))
		}
	}
}

// P15.3: a byte that is changed on the way, within the wraps of those ahead.
func TestUnwrapChangedWithin(t *testing.T) {
	shares := someShares(3)
	for m := 1; m < 3; m++ {
		within := wrappedOf(7, shares[m:], text(3, 130))
		for at := range within {
			other := bytes.Clone(within)
			other[at] ^= 0x10
			unwrapsNot(t, fmt.Sprint("byte ", at, " behind ", m, " shares"), 7, shares, wrappedOf(7, shares[:m], other))
		}
	}
}

// P15.3: in another round nothing is unwrapped, nor what was wrapped in two rounds.
func TestUnwrapRound(t *testing.T) {
	shares := someShares(2)
	for _, round := range rounds() {
		b := wrappedOf(round, shares, text(3, 130))
		for _, other := range append(rounds(), round+1, round-1, round^1<<63) {
			if other != round {
				unwrapsNot(t, fmt.Sprint("a reply of round ", round), other, shares, b)
				unwrapsNot(t, fmt.Sprint("a reply of rounds ", other, " and ", round), round, shares, wrappedOf(round, shares[:1], wrappedOf(other, shares[1:], text(3, 130))))
			}
		}
	}
}

// P15.3: what was sealed by the share, but not with its key back, that nonce, and no ad.
func TestUnwrapSealedOtherwise(t *testing.T) {
	share := someShares(1)[0]
	back := kdf.Derive(share, "back", low64(7))
	for name, b := range map[string][]byte{
		"the key out":       sealedOf(7, share, "out", text(3, 20)),
		"another label":     sealedOf(7, share, "bac", text(3, 20)),
		"the share itself":  aead.Seal(share, aead.Count(0), nil, text(3, 20)),
		"no round":          aead.Seal(kdf.Derive(share, "back"), aead.Count(0), nil, text(3, 20)),
		"the highest first": aead.Seal(kdf.Derive(share, "back", binary.BigEndian.AppendUint64(nil, 7)), aead.Count(0), nil, text(3, 20)),
		"the nonce 1":       aead.Seal(back, aead.Count(1), nil, text(3, 20)),
		"an ad":             aead.Seal(back, aead.Count(0), []byte{0}, text(3, 20)),
	} {
		unwrapsNot(t, name, 7, []api.Key{share}, b)
	}
	unwraps(t, "as the chapter says", 7, []api.Key{share}, aead.Seal(back, aead.Count(0), nil, text(3, 20)), text(3, 20))
}
