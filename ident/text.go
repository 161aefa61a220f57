package ident

import (
	"hollowtree/api"
	"hollowtree/sha"
)

const (
	// textSize is how many digits a key's text has.
	textSize = 2 * len(api.Key{})
	// printSize is how many bytes of a key's hash its fingerprint shows.
	printSize = 8
	// printPart is how many of them stand together.
	printPart = 2
	// sixteen are the digits to the base 16.
	sixteen = "0123456789abcdef"
)

// Name: P16.1. Bytes are looked at, not runes: a rune of several bytes begins with one that no name has, and is left there.
func Name(s string) bool {
	if s == "" || len(s) > api.MaxName {
		return false
	}
	for at := range s {
		if !inNames(s[at]) {
			return false
		}
	}
	return true
}

// inNames tells whether a name may have the byte.
func inNames(c byte) bool {
	switch {
	case 'a' <= c && c <= 'z', '0' <= c && c <= '9', c == '-':
		return true
	}
	return false
}

// Text: P16.1.
func Text(k api.Key) string {
	text := make([]byte, 0, textSize)
	for _, b := range k {
		text = putDigits(text, b)
	}
	return string(text)
}

// putDigits puts a byte's two digits behind the text.
func putDigits(text []byte, b byte) []byte {
	return append(text, sixteen[b>>4], sixteen[b&0xf])
}

// Key: P16.1. Bytes are looked at, not runes, as in Name.
func Key(s string) (api.Key, api.Spot) {
	var key api.Key
	for at := range s {
		value, is := valueOf(s[at])
		if !is || at == textSize {
			return api.Key{}, noKey(at)
		}
		key[at/2] = key[at/2]<<4 | value
	}
	if len(s) < textSize {
		return api.Key{}, noKey(len(s))
	}
	return key, api.Spot{}
}

func noKey(at int) api.Spot { return api.Spot{Err: api.ErrKey, At: at} }

// valueOf is what a digit to the base 16 stands for, and whether it is one.
func valueOf(digit byte) (byte, bool) {
	switch digit {
	case '0', '1', '2', '3', '4', '5', '6', '7', '8', '9':
		return digit - '0', true
	case 'a', 'b', 'c', 'd', 'e', 'f':
		return digit - 'a' + 10, true
	}
	return 0, false
}

// Fingerprint: P16.1.
func Fingerprint(k api.Key) string {
	var text []byte
	sum := sha.Sum(k[:])
	for at, b := range sum[:printSize] {
		if at > 0 && at%printPart == 0 {
			text = append(text, '-')
		}
		text = putDigits(text, b)
	}
	return string(text)
}
