package sched_test

import (
	"bytes"
	"fmt"
	"math"
	"math/rand"
	"testing"

	"hollowtree/aead"
	"hollowtree/api"
	"hollowtree/ident"
	"hollowtree/sched"
)

// P19.2: what aead alone seals by the chapter's words is read, in rounds at the edges, for either side and envelopes of each kind.
func TestRead(t *testing.T) {
	for _, way := range bothWays(8) {
		for _, round := range rounds() {
			for _, e := range envelopes() {
				reads(t, way[1], round, sent(way[0], round, bytesOf(e)), e)
			}
		}
	}
}

// P19.2: no round 0, whatever the reply is: one that is sealed for it, too.
func TestReadRound(t *testing.T) {
	p, q := sides(9)
	for _, e := range envelopes() {
		readsNot(t, "one of round 0", q, 0, sent(p, 0, bytesOf(e)), api.ErrRound)
		readsNot(t, "one of round 1", q, 0, sent(p, 1, bytesOf(e)), api.ErrRound)
		readsNot(t, "one's own", p, 0, sent(p, 0, bytesOf(e)), api.ErrRound)
	}
	readsNot(t, "the empty reply", q, 0, make([]byte, 130), api.ErrRound)
	readsNot(t, "nil", q, 0, nil, api.ErrRound)
	readsNot(t, "no bytes", q, 0, []byte{}, api.ErrRound)
	for _, n := range []int{1, 16, 129, 131, 146} {
		readsNot(t, fmt.Sprint(n, " noughts"), q, 0, make([]byte, n), api.ErrRound)
		readsNot(t, fmt.Sprint(n, " bytes FF"), q, 0, bytes.Repeat([]byte{0xff}, n), api.ErrRound)
	}
	readsNot(t, "130 bytes FF", q, 0, bytes.Repeat([]byte{0xff}, 130), api.ErrRound)
	readsNot(t, "no envelope", q, 0, sent(p, 0, bytes.Repeat([]byte{2}, 114)), api.ErrRound)
}

// P19.2: ErrSize of all counts of bytes but SealedSize, ahead of all that is wrong with them.
func TestReadSize(t *testing.T) {
	p, q := sides(10)
	right := sent(p, 3, bytesOf(envelopes()[6]))
	long := append(bytes.Clone(right), make([]byte, 300)...)
	readsNot(t, "nil", q, 3, nil, api.ErrSize)
	for n := range len(long) {
		if n == 130 {
			continue
		}
		readsNot(t, fmt.Sprint(n, " right bytes"), q, 3, long[:n], api.ErrSize)
		readsNot(t, fmt.Sprint(n, " noughts"), q, 3, make([]byte, n), api.ErrSize)
		readsNot(t, fmt.Sprint(n, " bytes FF"), q, 3, bytes.Repeat([]byte{0xff}, n), api.ErrSize)
		if n >= 16 {
			readsNot(t, fmt.Sprint(n, " bytes that were sealed"), q, 3, sent(p, 3, make([]byte, n-16)), api.ErrSize)
			readsNot(t, fmt.Sprint(n, " bytes, one's own"), p, 3, sent(p, 3, make([]byte, n-16)), api.ErrSize)
		}
	}
	reads(t, q, 3, long[:130], envelopes()[6])
	readsNot(t, "130 noughts", q, 3, make([]byte, 130), api.ErrNobody)
	readsNot(t, "130 bytes FF", q, 3, bytes.Repeat([]byte{0xff}, 130), api.ErrAuth)
	readsNot(t, "a byte ahead", q, 3, append([]byte{0}, right...), api.ErrSize)
	readsNot(t, "all but the first byte", q, 3, right[1:], api.ErrSize)
	readsNot(t, "it twice", q, 3, append(bytes.Clone(right), right...), api.ErrSize)
	readsNot(t, "the payload", q, 3, sched.Payload(makes(t, p, 3, envelopes()[6])), api.ErrSize)
}

// P19.2: ErrNobody of 130 noughts, whoever asks and whenever; not, where one bit is none.
func TestReadNobody(t *testing.T) {
	for _, way := range append(bothWays(11), [2]api.Pair{}) {
		for _, round := range rounds() {
			readsNot(t, "130 noughts", way[0], round, make([]byte, 130), api.ErrNobody)
			readsNot(t, "Empty", way[0], round, sched.Empty(), api.ErrNobody)
		}
		for bit := range 8 * 130 {
			readsNot(t, fmt.Sprint("noughts but for the bit ", bit), way[0], 3, turned(make([]byte, 130), bit), api.ErrAuth)
		}
	}
}

// sealing is what a reply is sealed with.
type sealing struct {
	key   api.Key
	nonce api.Nonce
	ad    []byte
}

func (s sealing) of(plain []byte) []byte { return aead.Seal(s.key, s.nonce, s.ad, plain) }

// rightly is how p's side seals in a round.
func rightly(p api.Pair, round uint64) sealing {
	drop := ident.Drop(p, round)
	return sealing{ident.RoundKey(p, round, true), count(round), drop[:]}
}

// wrongKeys are keys other than that for what p's side sends in a round.
func wrongKeys(p api.Pair, round uint64) []api.Key {
	other, _ := sides(1000)
	right := ident.RoundKey(p, round, true)
	list := []api.Key{
		ident.RoundKey(p, round, false), ident.RoundKey(p, round+1, true), ident.RoundKey(p, round-1, true), ident.RoundKey(p, 0, true),
		ident.RoundKey(p, round+1, false), ident.RoundKey(other, round, true), ident.RoundKey(other, round, false), p.Secret, {},
	}
	for _, bit := range []int{0, 7, 100, 255} {
		list = append(list, api.Key(turned(right[:], bit)))
	}
	return list
}

// wrongNonces are nonces other than the round's count.
func wrongNonces(round uint64) []api.Nonce {
	list := []api.Nonce{count(round + 1), count(round - 1), count(0)}
	right := count(round)
	var ahead, about api.Nonce
	copy(ahead[:], right[4:])
	for i, c := range right {
		about[11-i] = c
	}
	list = append(list, ahead, about)
	for bit := range 96 {
		list = append(list, api.Nonce(turned(right[:], bit)))
	}
	return list
}

// wrongAds are bytes other than the hollow in a round.
func wrongAds(p api.Pair, round uint64) [][]byte {
	other, _ := sides(1000)
	right := ident.Drop(p, round)
	later, theirs := ident.Drop(p, round+1), ident.Drop(other, round)
	list := [][]byte{nil, right[:15], append(right[:], 0), make([]byte, 16), later[:], theirs[:], append(right[:], right[:]...), right[1:]}
	for bit := range 128 {
		list = append(list, turned(right[:], bit))
	}
	return list
}

// P19.2: ErrAuth of what was sealed with the key for what oneself sends, another round's key, another pair's, or another key at all.
func TestReadKey(t *testing.T) {
	for _, way := range bothWays(12) {
		for _, round := range []uint64{1, 3, math.MaxUint64} {
			for i, key := range wrongKeys(way[0], round) {
				s := rightly(way[0], round)
				s.key = key
				readsNot(t, fmt.Sprint("the key ", i), way[1], round, s.of(bytesOf(envelopes()[6])), api.ErrAuth)
			}
		}
	}
}

// P19.2: ErrAuth of what was sealed with another count, or with the round at another place of the nonce.
func TestReadCount(t *testing.T) {
	for _, way := range bothWays(13) {
		for _, round := range []uint64{1, 3, math.MaxUint64} {
			for i, nonce := range wrongNonces(round) {
				s := rightly(way[0], round)
				s.nonce = nonce
				readsNot(t, fmt.Sprint("the nonce ", i), way[1], round, s.of(bytesOf(envelopes()[6])), api.ErrAuth)
			}
		}
	}
}

// P19.2: ErrAuth of what was sealed with another ad: none, another hollow, or more or less of the hollow.
func TestReadAd(t *testing.T) {
	for _, way := range bothWays(14) {
		for _, round := range []uint64{1, 3, math.MaxUint64} {
			for i, ad := range wrongAds(way[0], round) {
				s := rightly(way[0], round)
				s.ad = ad
				readsNot(t, fmt.Sprint("the ad ", i), way[1], round, s.of(bytesOf(envelopes()[6])), api.ErrAuth)
			}
		}
	}
}

// P19.2: ErrAuth of two wrong ones at once, and of all three.
func TestReadWrongTwice(t *testing.T) {
	p, q := sides(15)
	for i, key := range wrongKeys(p, 3) {
		for j, nonce := range wrongNonces(3)[:5] {
			for k, ad := range wrongAds(p, 3)[:8] {
				what := fmt.Sprint("the key ", i, ", the nonce ", j, ", the ad ", k)
				right := rightly(p, 3)
				for _, s := range []sealing{{key, nonce, right.ad}, {key, right.nonce, ad}, {right.key, nonce, ad}, {key, nonce, ad}} {
					readsNot(t, what, q, 3, s.of(bytesOf(envelopes()[6])), api.ErrAuth)
				}
			}
		}
	}
}

// P19.2: each bit of a right reply counts.
func TestReadTurned(t *testing.T) {
	for _, way := range bothWays(16) {
		for _, e := range envelopes()[2:7] {
			x := makes(t, way[0], 3, e)
			for bit := range 8 * 130 {
				readsNot(t, fmt.Sprint("the bit ", bit, " turned"), way[1], 3, turned(x.Body[:], bit), api.ErrAuth)
			}
			reads(t, way[1], 3, x.Body[:], e)
		}
	}
}

// noBytes are 114 bytes that are no envelope's that may be: each other kind, and each bit that an idle one can't have.
func noBytes() [][]byte {
	var list [][]byte
	for kind := 2; kind < 256; kind++ {
		for _, e := range []api.Envelope{{}, envelopes()[6]} {
			b := bytesOf(e)
			b[0] = byte(kind)
			list = append(list, b)
		}
	}
	for bit := range 8 * 109 {
		list = append(list, turned(bytesOf(api.Envelope{Ack: 9}), 8*5+bit))
	}
	return append(list, bytes.Repeat([]byte{0xff}, 114), bytes.Repeat([]byte{2}, 114), append([]byte{0}, bytes.Repeat([]byte{0xff}, 113)...))
}

// P19.2: ErrField of what is rightly sealed and is no envelope that may be; ErrAuth, ErrSize and ErrRound go ahead of it.
func TestReadField(t *testing.T) {
	p, q := sides(17)
	for i, plain := range noBytes() {
		what := fmt.Sprint("no envelope ", i)
		reply := sent(p, 3, plain)
		readsNot(t, what, q, 3, reply, api.ErrField)
		readsNot(t, what+", one's own", p, 3, reply, api.ErrAuth)
		readsNot(t, what+", of another round", q, 4, reply, api.ErrAuth)
		readsNot(t, what+", a bit turned", q, 3, turned(reply, i%1040), api.ErrAuth)
		readsNot(t, what+", a byte less", q, 3, reply[:129], api.ErrSize)
		readsNot(t, what+", a byte more", q, 3, append(bytes.Clone(reply), 0), api.ErrSize)
		readsNot(t, what, q, 0, reply, api.ErrRound)
		readsNot(t, what+", sealed for round 0", q, 0, sent(p, 0, plain), api.ErrRound)
	}
}

// P19.2: from the other side, and in rounds at the edges.
func TestReadFieldRounds(t *testing.T) {
	for _, way := range bothWays(18) {
		for _, round := range rounds() {
			for _, plain := range noBytes()[:8] {
				readsNot(t, "no envelope", way[1], round, sent(way[0], round, plain), api.ErrField)
			}
		}
	}
}

// P19.2: 114 bytes that are drawn, rightly sealed: read just if an envelope has them.
func TestReadDrawnPlain(t *testing.T) {
	r := rand.New(rand.NewSource(3))
	p, q := sides(19)
	for range 2000 {
		plain := make([]byte, 114)
		if r.Intn(2) == 0 {
			r.Read(plain[1+4*r.Intn(3):])
		}
		plain[0] = byte(r.Intn(3))
		e := api.Envelope{Kind: int(plain[0]), Body: [105]byte(plain[9:])}
		for i := range 4 {
			e.Ack |= uint32(plain[1+i]) << (8 * i)
			e.Seq |= uint32(plain[5+i]) << (8 * i)
		}
		round := r.Uint64() | 1
		if e.Kind == 1 || e.Kind == 0 && bytes.Count(plain[5:], []byte{0}) == 109 {
			reads(t, q, round, sent(p, round, plain), e)
		} else {
			readsNot(t, "no envelope", q, round, sent(p, round, plain), api.ErrField)
		}
	}
}

// P19.2: drawn bytes were sealed by nobody.
func TestReadDrawn(t *testing.T) {
	r := rand.New(rand.NewSource(4))
	p, q := sides(20)
	for range 2000 {
		b := make([]byte, 130)
		r.Read(b)
		readsNot(t, "drawn bytes", p, r.Uint64()|1, b, api.ErrAuth)
		readsNot(t, "drawn bytes", q, r.Uint64()|1, b, api.ErrAuth)
	}
}
