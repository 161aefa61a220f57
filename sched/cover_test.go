package sched_test

import (
	"bytes"
	"encoding/hex"
	"math/rand"
	"slices"
	"testing"

	"hollowtree/api"
	"hollowtree/dice"
	"hollowtree/sched"
)

// covers looks for the cover of the bytes that twins draw, and whether both are as far then.
func covers(t *testing.T, d, twin *dice.Dice) api.Exchange {
	t.Helper()
	before := twin.Taken()
	drop, _ := twin.Bytes(16)
	body, _ := twin.Bytes(130)
	x, err := sched.Cover(d)
	if err != api.OK || !bytes.Equal(x.Drop[:], drop) || !bytes.Equal(x.Body[:], body) {
		t.Errorf("Cover: %x, %d; not %x, %x", x, err, drop, body)
	}
	if d.Taken() != before+146 {
		t.Errorf("Cover took %d", d.Taken()-before)
	}
	one, _ := d.Bytes(40)
	other, _ := twin.Bytes(40)
	if !bytes.Equal(one, other) {
		t.Errorf("behind Cover: %x, not %x", one, other)
	}
	return x
}

// P19.1: 16 bytes, then 130, as they are drawn, and the dice behind it; wherever in a block they are.
func TestCover(t *testing.T) {
	for _, seed := range [][]byte{nil, {}, {0}, []byte("seed"), make([]byte, 100)} {
		for taken := range 70 {
			d, twin := dice.New(seed), dice.New(seed)
			d.Bytes(taken)
			twin.Bytes(taken)
			for range 3 {
				covers(t, d, twin)
			}
		}
	}
}

// P19.1: behind draws of all kinds, and of dice that were forked.
func TestCoverDrawn(t *testing.T) {
	r := rand.New(rand.NewSource(2))
	d, twin := dice.New([]byte("some")), dice.New([]byte("some"))
	for range 300 {
		n := 1 + r.Intn(200)
		for _, x := range []*dice.Dice{d, twin} {
			x.Below(n)
			x.Order(n % 7)
		}
		if n%10 == 0 {
			d, _ = d.Fork("on")
			twin, _ = twin.Fork("on")
		}
		covers(t, d, twin)
	}
}

// P19.1: the stream of the seed "cover", as another program made it (OpenSSL's ChaCha20, with SHA-256 of Python's library).
func TestCoverElsewhere(t *testing.T) {
	d := dice.New([]byte("cover"))
	x, err := sched.Cover(d)
	const body = "86c021d337b269402cff0fc830f961551d0c889036105b150f5abc738e7ccd8d5df36ed44ed4bb0941f64895cc0e4a218e4cb983376f491ee12023876e27ce2eae6c75f24ba14b8c6504eed8c7047db57dd196f6f114d8252e8eda51fa2efcb5603155b3e782b853444de2e6c6c4ca4b36c1485edb0fb12497446dca088084d3b243"
	if err != api.OK || hex.EncodeToString(x.Drop[:]) != "6a836292f5bf15254411959fc0d7f75f" || hex.EncodeToString(x.Body[:]) != body {
		t.Errorf("Cover: %x, %x, %d", x.Drop, x.Body, err)
	}
	if key, _ := d.Key(); hex.EncodeToString(key[:]) != "3268856725e4c7ad8f84dca513002925e1f5260ec60a43dbfc2564a9de6bf4ac" {
		t.Errorf("behind it: %x", key)
	}
}

// P19.1: ErrNil of no dice, and nothing beside it.
func TestCoverNil(t *testing.T) {
	for range 2 {
		if x, err := sched.Cover(nil); err != api.ErrNil || x != (api.Exchange{}) {
			t.Errorf("Cover(nil): %x, %d", x, err)
		}
	}
}

// P19.1: each cover is another one, and opens for nobody.
func TestCoversApart(t *testing.T) {
	seen := map[api.Exchange]int{}
	d := dice.New([]byte("apart"))
	p, q := sides(6)
	for range 200 {
		x, _ := sched.Cover(d)
		seen[x]++
		readsNot(t, "a cover", p, 3, x.Body[:], api.ErrAuth)
		readsNot(t, "a cover", q, 3, x.Body[:], api.ErrAuth)
	}
	if len(seen) != 200 {
		t.Errorf("%d covers", len(seen))
	}
}

// pays looks for an exchange's bytes: the Drop, then the Body.
func pays(t *testing.T, x api.Exchange) {
	t.Helper()
	want := slices.Concat(x.Drop[:], x.Body[:])
	if b := sched.Payload(x); !bytes.Equal(b, want) || len(b) != 146 {
		t.Errorf("Payload: %x, not %x", b, want)
	}
}

// P19.1: the bytes of real exchanges, covers, and whatever else is an exchange.
func TestPayload(t *testing.T) {
	p, q := sides(7)
	for _, e := range envelopes() {
		pays(t, makes(t, p, 3, e))
		pays(t, makes(t, q, 3, e))
	}
	d := dice.New([]byte("payload"))
	for range 20 {
		x, _ := sched.Cover(d)
		pays(t, x)
	}
	var unlike api.Exchange
	for i := range unlike.Drop {
		unlike.Drop[i] = byte(i + 1)
	}
	for i := range unlike.Body {
		unlike.Body[i] = byte(i + 17)
	}
	pays(t, unlike)
	pays(t, api.Exchange{})
	for i, c := range sched.Payload(unlike) {
		if int(c) != i+1 {
			t.Errorf("at %d: %d", i, c)
		}
	}
}

// P19.2: 130 noughts.
func TestEmpty(t *testing.T) {
	if b := sched.Empty(); !bytes.Equal(b, make([]byte, 130)) {
		t.Errorf("Empty: %x", b)
	}
}
