package sched_test

import (
	"bytes"
	"testing"

	"hollowtree/api"
	"hollowtree/dice"
	"hollowtree/sched"
)

// spoil changes what a list has, and the room behind its end.
func spoil(b []byte) {
	b = b[:cap(b)]
	for i := range b {
		b[i] ^= 0x55
	}
}

// R3: Read neither changes nor keeps the reply, nor the room behind its end; where it refuses, too.
func TestReadMemory(t *testing.T) {
	p, q := sides(21)
	right := sent(p, 3, bytesOf(envelopes()[6]))
	for i, reply := range [][]byte{right, right[:129], append(bytes.Clone(right), 7), turned(right, 0), sched.Empty(), sent(p, 3, noBytes()[0]), sent(q, 3, bytesOf(envelopes()[6])), nil} {
		for _, round := range []uint64{0, 3, 4} {
			all := append(bytes.Clone(reply), bytes.Repeat([]byte{0xee}, 300)...)
			was := bytes.Clone(all)
			one, err := sched.Read(q, round, all[:len(reply)])
			other, again := sched.Read(q, round, all[:len(reply)])
			if !bytes.Equal(all, was) {
				t.Errorf("reply %d in %d is changed", i, round)
			}
			spoil(all)
			if third, last := sched.Read(q, round, reply); one != other || one != third || err != again || err != last {
				t.Errorf("reply %d in %d: %v, %d; then %v, %d; then %v, %d", i, round, one, err, other, again, third, last)
			}
		}
	}
	reads(t, q, 3, right, envelopes()[6])
}

// P19.2, R3: the empty reply is new memory each time, and what becomes of it is nobody's business.
func TestEmptyMemory(t *testing.T) {
	_, q := sides(22)
	one, other := sched.Empty(), sched.Empty()
	spoil(one)
	if !bytes.Equal(other, make([]byte, 130)) || !bytes.Equal(sched.Empty(), make([]byte, 130)) {
		t.Error("one memory is answered twice")
	}
	readsNot(t, "noughts", q, 3, make([]byte, 130), api.ErrNobody)
	readsNot(t, "a spoilt one", q, 3, one, api.ErrAuth)
	spoil(append(other, 1))
	if !bytes.Equal(sched.Empty(), make([]byte, 130)) {
		t.Error("the room behind the end is shared")
	}
}

// R3: a payload shares nothing with its exchange, nor with another payload.
func TestPayloadMemory(t *testing.T) {
	p, _ := sides(23)
	x := makes(t, p, 3, envelopes()[6])
	was := x
	one, other := sched.Payload(x), sched.Payload(x)
	spoil(one)
	if x != was {
		t.Error("the exchange is changed")
	}
	if !bytes.Equal(other, append(was.Drop[:], was.Body[:]...)) {
		t.Error("one memory is answered twice")
	}
	x.Drop[0]++
	x.Body[0]++
	if !bytes.Equal(other, append(was.Drop[:], was.Body[:]...)) {
		t.Error("the exchange is kept")
	}
}

// R3: an envelope that is handed in stays as it is, and what is answered is nobody else's.
func TestRealMemory(t *testing.T) {
	p, _ := sides(24)
	for _, e := range append(envelopes(), api.Envelope{Kind: 2, Body: known()}) {
		was, pair := e, p
		one, err := sched.Real(p, 3, e)
		kept := one
		spoil(one.Body[:])
		spoil(one.Drop[:])
		if again, last := sched.Real(p, 3, e); again != kept || err != last || e != was || p != pair {
			t.Errorf("%v: %x, then %x", e, kept, again)
		}
	}
}

// R3: a cover shares nothing with its dice.
func TestCoverMemory(t *testing.T) {
	d, twin := dice.New([]byte("memory")), dice.New([]byte("memory"))
	x := covers(t, d, twin)
	spoil(x.Body[:])
	spoil(x.Drop[:])
	covers(t, d, twin)
	seed := []byte("memory")
	d = dice.New(seed)
	one, _ := sched.Cover(d)
	spoil(seed)
	if other, _ := sched.Cover(dice.New([]byte("memory"))); one != other {
		t.Errorf("%x, then %x", one, other)
	}
}
