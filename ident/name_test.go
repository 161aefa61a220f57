package ident_test

import (
	"strings"
	"testing"

	"hollowtree/api"
)

// allowed are all bytes of names.
const allowed = "abcdefghijklmnopqrstuvwxyz0123456789-"

// foreign are runes of several bytes; of some the lowest byte of their number would be one of a name, or a digit to the base 16.
func foreign() []string {
	return []string{
		"\u0161", "\u012d", "\u0130", "\u0139", "\u0166", "\u017a", "\u00e4", "\u0080", "\u00df", "\u0430", "\u2013", "\uff41", "\uff10", "\ufffd", "\U00010061", "\U0001f333",
	}
}

// broken are bytes that are no UTF-8, or only the beginning or the end of a rune.
func broken() []string {
	return []string{"\x80", "\xbf", "\xc3", "\xc3\x28", "\xe2\x80", "\xe1", "\xf0\x9f\x8c", "\xc1\xa1", "\xed\xa0\x80", "\xf8\x88\x80\x80", "\xfe", "\xff", "\xff\xff"}
}

// P16.1: names of no bytes, of 1, of MaxName, of one more, and of many more.
func TestNameLengths(t *testing.T) {
	for n := range 300 {
		for _, c := range []string{"a", "z", "0", "9", "-", "m", "5"} {
			isName(t, strings.Repeat(c, n), 1 <= n && n <= 16)
		}
	}
	if api.MaxName != 16 {
		t.Errorf("MaxName is %d", api.MaxName)
	}
	for _, n := range []int{256, 257, 272, 65536, 65537, 1 << 20} {
		isName(t, strings.Repeat("a", n), false)
	}
}

// P16.1: each of the 256 bytes, alone and at each place among others.
func TestNameBytes(t *testing.T) {
	for c := range 256 {
		one := string([]byte{byte(c)})
		is := strings.Contains(allowed, one)
		isName(t, one, is)
		for n := 2; n <= 17; n++ {
			for at := range n {
				for _, other := range []string{"a", "9", "-"} {
					isName(t, strings.Repeat(other, at)+one+strings.Repeat(other, n-at-1), is && n <= 16)
				}
			}
		}
	}
}

// P16.1: each byte of names in names of many unlike ones.
func TestNameMixed(t *testing.T) {
	ring := allowed + allowed
	for at := range allowed {
		for n := range 20 {
			isName(t, ring[at:at+n], 1 <= n && n <= 16)
		}
	}
}

// P16.1: runes of several bytes, and bytes that are no UTF-8, wherever they stand.
func TestNameForeign(t *testing.T) {
	for _, part := range append(foreign(), broken()...) {
		isName(t, part, false)
		for n := 1; n <= 17; n++ {
			for at := range n + 1 {
				isName(t, strings.Repeat("a", at)+part+strings.Repeat("b", n-at), false)
			}
		}
		isName(t, strings.Repeat(part, 16), false)
	}
}

// P16.1: what looks like a name, and is none.
func TestNameNearly(t *testing.T) {
	for _, s := range []string{" ", "a b", " a", "a ", "a\n", "\ta", "a_b", "a.b", "a/b", "aB", "Bo", "bo!", "a+b", "a\x00", "\x00", "`", "{", "/", ":", ",", ".", "a\u2010b"} {
		isName(t, s, false)
	}
	for _, s := range []string{"-", "--", "-a", "a-", "0", "00", "007", "bo", "a-b-c", "----------------", "0123456789abcdef", "zzzzzzzzzzzzzzzz"} {
		isName(t, s, true)
	}
}
