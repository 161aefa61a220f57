package ident_test

import (
	"crypto/sha256"
	"encoding/hex"
	"math/rand"
	"strings"
	"testing"

	"hollowtree/api"
	"hollowtree/ident"
)

// sixteen are the digits of a key's text.
const sixteen = "0123456789abcdef"

// right is n digits, such as are unlike side by side.
func right(n int) string {
	b := make([]byte, n)
	for i := range b {
		b[i] = sixteen[(7*i+i/16+3)%16]
	}
	return string(b)
}

// readOf holds a text against the chapter's words, byte by byte.
func readOf(t *testing.T, text string) {
	t.Helper()
	for at := range len(text) {
		if at == 64 || strings.IndexByte(sixteen, text[at]) < 0 {
			isNoKey(t, text, at)
			return
		}
	}
	if len(text) < 64 {
		isNoKey(t, text, len(text))
		return
	}
	isKey(t, text, digits(t, text))
}

// P16.1: Text of noughts, of FF, of bytes that are all unlike, of each byte at each place.
func TestText(t *testing.T) {
	for k, want := range map[api.Key]string{
		{}:           strings.Repeat("00", 32),
		filled(0xff): strings.Repeat("ff", 32),
		filled(0x0f): strings.Repeat("0f", 32),
		filled(0xa9): strings.Repeat("a9", 32),
		{0x01, 0x23, 0x45, 0x67, 0x89, 0xab, 0xcd, 0xef, 31: 0x10}: "0123456789abcdef" + strings.Repeat("00", 23) + "10",
	} {
		if text := ident.Text(k); text != want {
			t.Errorf("Text of %x: %q", k, text)
		}
	}
	list := append(someDrawn(3, 500), unlike())
	for c := range 256 {
		for at := range 32 {
			list = append(list, with(unlike(), at, byte(c)))
		}
	}
	for _, k := range list {
		if text := ident.Text(k); text != hex.EncodeToString(k[:]) || len(text) != 64 {
			t.Errorf("Text of %x: %q", k, text)
		}
	}
}

// P16.1: Key of texts of each length, all of them digits.
func TestKeyLengths(t *testing.T) {
	for n := range 300 {
		for _, text := range []string{right(n), strings.Repeat("0", n), strings.Repeat("f", n)} {
			switch {
			case n < 64:
				isNoKey(t, text, n)
			case n > 64:
				isNoKey(t, text, 64)
			default:
				isKey(t, text, digits(t, text))
			}
		}
	}
	for _, n := range []int{320, 4096, 1 << 20} {
		isNoKey(t, right(n), 64)
	}
	isNoKey(t, "", 0)
}

// P16.1: each digit at each place, in both halves of a byte.
func TestKeyDigits(t *testing.T) {
	for at := range 64 {
		for value := range 16 {
			text := right(64)[:at] + sixteen[value:value+1] + right(64)[at+1:]
			isKey(t, text, digits(t, text))
			k, _ := ident.Key(text)
			if half := k[at/2] >> (4 * (1 - at%2)) & 0xf; int(half) != value {
				t.Errorf("the digit %x at %d: %x", value, at, half)
			}
		}
	}
}

// P16.1: each of the 256 bytes at each place from 0 to 64, in texts that end with it, that are too short, that have 64 digits, and more.
func TestKeyBytes(t *testing.T) {
	for c := range 256 {
		wrong := !strings.Contains(sixteen, string([]byte{byte(c)}))
		for at := range 65 {
			for _, n := range []int{at + 1, at + 2, 40, 63, 64, 65, 66, 130} {
				if n <= at {
					continue
				}
				text := right(at) + string([]byte{byte(c)}) + right(n-at-1)
				readOf(t, text)
				if wrong {
					isNoKey(t, text, at)
				}
			}
		}
	}
}

// P16.1: bytes that are nearly digits: capital letters, g, those just ahead of and behind 0, 9, a and f, above 7F.
func TestKeyNearly(t *testing.T) {
	for _, c := range []string{"A", "B", "C", "D", "E", "F", "G", "g", "x", "/", ":", "@", "`", " ", "-", "_", "\n", "\x00", "\x10", "\x7f", "\x80", "\xb0", "\xe1", "\xff"} {
		for at := range 65 {
			isNoKey(t, right(at)+c, at)
			isNoKey(t, right(at)+c+right(70), at)
		}
	}
	isNoKey(t, "0x"+right(62), 1)
	isNoKey(t, " "+right(64), 0)
	isNoKey(t, right(64)+" ", 64)
	isNoKey(t, right(64)+"\n", 64)
	isNoKey(t, strings.ToUpper(right(64)), strings.IndexAny(right(64), "abcdef"))
}

// P16.1: runes of several bytes, and bytes that are no UTF-8: their first byte is told.
func TestKeyForeign(t *testing.T) {
	for _, part := range append(foreign(), broken()...) {
		for at := range 65 {
			isNoKey(t, right(at)+part, at)
			isNoKey(t, right(at)+part+right(5), at)
			isNoKey(t, right(at)+part+right(64), at)
			if rest := 64 - at - len(part); rest >= 0 {
				isNoKey(t, right(at)+part+right(rest), at)
			}
		}
	}
}

// P16.1: of several wrong bytes the first one is told; one at 64 and behind it is told at 64.
func TestKeySeveral(t *testing.T) {
	for one := range 64 {
		for other := one + 1; other < 64; other++ {
			text := right(one) + "g" + right(other-one-1) + "A"
			isNoKey(t, text, one)
			isNoKey(t, text+right(64-len(text)), one)
			isNoKey(t, text+right(10)+"\xff"+right(80), one)
		}
	}
	for behind := range 70 {
		isNoKey(t, right(64)+right(behind)+"g", 64)
		isNoKey(t, right(64)+right(behind)+"\u0161"+right(3), 64)
	}
	isNoKey(t, right(64)+"gg", 64)
	isNoKey(t, strings.Repeat("g", 64), 0)
	isNoKey(t, strings.Repeat("g", 200), 0)
}

// P16.1: drawn texts, mostly of digits, held against the chapter's words.
func TestKeyDrawn(t *testing.T) {
	r := rand.New(rand.NewSource(4))
	for range 5000 {
		b := []byte(right(60 + r.Intn(8)))
		for i := range b {
			b[i] = sixteen[r.Intn(16)]
		}
		for range r.Intn(3) {
			b[r.Intn(len(b))] = byte(r.Intn(256))
		}
		readOf(t, string(b))
	}
	for range 2000 {
		b := make([]byte, r.Intn(140))
		r.Read(b)
		readOf(t, string(b))
	}
}

// printOf is the fingerprint by the chapter's words.
func printOf(k api.Key) string {
	sum := sha256.Sum256(k[:])
	text := hex.EncodeToString(sum[:8])
	return strings.Join([]string{text[:4], text[4:8], text[8:12], text[12:]}, "-")
}

// P16.1: Fingerprint, byte for byte against the hash; the first ones were made by another program.
func TestFingerprint(t *testing.T) {
	var rising api.Key
	for i := range rising {
		rising[i] = byte(i)
	}
	for k, want := range map[api.Key]string{
		{}:           "6668-7aad-f862-bd77",
		filled(0xff): "af96-1376-0f72-635f",
		rising:       "630d-cd29-66c4-3366",
	} {
		if text := ident.Fingerprint(k); text != want {
			t.Errorf("Fingerprint of %x: %q", k, text)
		}
	}
	list := append(someDrawn(5, 500), unlike(), rising)
	for bit := range 256 {
		list = append(list, with(unlike(), bit/8, unlike()[bit/8]^1<<(bit%8)))
	}
	seen := map[string]int{}
	for _, k := range list {
		text := ident.Fingerprint(k)
		if text != printOf(k) || len(text) != 19 {
			t.Errorf("Fingerprint of %x: %q", k, text)
		}
		seen[text]++
	}
	if len(seen) != len(list) {
		t.Errorf("%d fingerprints of %d keys", len(seen), len(list))
	}
}
