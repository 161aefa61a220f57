package sched

import (
	"hollowtree/aead"
	"hollowtree/api"
	"hollowtree/ident"
)

// For whom what is sealed in a round is.
const (
	forPeer = iota
	forMe
)

// terms are what both sides of a pair have for one way of a round, without a word between them.
type terms struct {
	key   api.Key
	nonce api.Nonce
	drop  api.Drop
}

// termsOf: what is for the peer oneself sends, what is for oneself the peer. Each way has a key of its own in each round, and so the round's number will do as a nonce for both.
func termsOf(p api.Pair, round uint64, whom int) terms {
	t := terms{nonce: aead.Count(round), drop: ident.Drop(p, round)}
	switch whom {
	case forPeer:
		t.key = ident.RoundKey(p, round, true)
	case forMe:
		t.key = ident.RoundKey(p, round, false)
	}
	return t
}

func (t terms) seal(plain []byte) []byte { return aead.Seal(t.key, t.nonce, t.drop[:], plain) }

func (t terms) open(sealed []byte) ([]byte, api.Errno) {
	return aead.Open(t.key, t.nonce, t.drop[:], sealed)
}
