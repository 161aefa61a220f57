package curve_test

import (
	"math/big"
	"slices"
	"testing"

	"hollowtree/api"
	"hollowtree/curve"
)

// lowPlaces are the five that the chapter lists.
func lowPlaces(t *testing.T) []api.Key {
	return []api.Key{
		{},
		{1},
		key(new(big.Int).Sub(prime(), big.NewInt(1))),
		decimal(t, "325606250916557431795983626356110631294008115727848805560023387167927233504"),
		decimal(t, "39382357235489614581723060781553021112529911719440698176882885853963445705823"),
	}
}

// writings are all keys whose place is one of the five: with p added, where that is below 2^255, and with the highest bit.
func writings(t *testing.T) []api.Key {
	var out []api.Key
	for _, low := range lowPlaces(t) {
		for _, x := range []*big.Int{number(low), new(big.Int).Add(number(low), prime())} {
			if x.Cmp(whole(255, 0)) < 0 {
				out = append(out, key(x), key(x.SetBit(x, 255, 1)))
			}
		}
	}
	return out
}

// neighbours are keys about the low ones that are none themselves: a little less, a little more, the bytes from behind, one bit turned.
func neighbours(t *testing.T) []api.Key {
	lows := writings(t)
	var out []api.Key
	add := func(u api.Key) {
		if !slices.Contains(lows, u) {
			out = append(out, u)
		}
	}
	for _, low := range lows {
		for _, n := range []int64{-19, -18, -2, -1, 1, 2, 18, 19} {
			x := new(big.Int).Add(number(low), big.NewInt(n))
			if x.Sign() >= 0 && x.Cmp(whole(256, 0)) < 0 {
				add(key(x))
			}
		}
		behind := low
		slices.Reverse(behind[:])
		add(behind)
	}
	for _, low := range lowPlaces(t) {
		for bit := range 255 {
			add(turned(low, bit))
		}
	}
	return out
}

// refused looks at what Agree answers of a low key.
func refused(t *testing.T, k, u api.Key) {
	t.Helper()
	if x, err := curve.Agree(k, u); x != (api.Key{}) || err != api.ErrLow {
		t.Errorf("Agree of %x and %x: %x, %d", k, u, x, err)
	}
}

// taken looks at what Agree answers of a key that is not low.
func taken(t *testing.T, k, u api.Key) {
	t.Helper()
	want := curve.X(k, u)
	if x, err := curve.Agree(k, u); x != want || x == (api.Key{}) || err != api.OK {
		t.Errorf("Agree of %x and %x: %x, %d, where X is %x", k, u, x, err, want)
	}
}

// P3.1, P3.2: the chapter's examples.
func TestLowExamples(t *testing.T) {
	for _, u := range []api.Key{{}, {1}} {
		if !curve.Low(u) {
			t.Errorf("%x is not low", u)
		}
		for _, k := range secrets() {
			refused(t, k, u)
		}
	}
}

// P3.1, P3.2: the five low keys, in each of their writings.
func TestLow(t *testing.T) {
	lows := writings(t)
	if len(lows) != 14 {
		t.Fatalf("%d writings", len(lows))
	}
	for _, u := range lows {
		if !curve.Low(u) {
			t.Errorf("%x is not low", u)
		}
		for _, k := range append(secrets(), drawn(12, 10)...) {
			if x := curve.X(k, u); x != (api.Key{}) {
				t.Errorf("X of %x and %x: %x", k, u, x)
			}
			refused(t, k, u)
		}
	}
}

// P3.1, P3.2: keys about a low one are not low.
func TestNextToLow(t *testing.T) {
	k := drawn(13, 1)[0]
	for _, u := range neighbours(t) {
		if curve.Low(u) {
			t.Errorf("%x is low", u)
		}
		taken(t, k, u)
	}
	for _, u := range []api.Key{{2}, {9}, key(whole(255, -21)), key(whole(255, -17)), key(whole(255, -1)), key(whole(256, -1)), key(whole(254, 0))} {
		if curve.Low(u) {
			t.Errorf("%x is low", u)
		}
		for _, k := range secrets() {
			taken(t, k, u)
		}
	}
}

// P3.3: Agree refuses just the keys that Low tells, whatever the secret.
func TestAgree(t *testing.T) {
	lows := writings(t)
	for _, u := range append(places(), drawn(14, 40)...) {
		low := slices.Contains(lows, u)
		if curve.Low(u) != low {
			t.Errorf("Low of %x: %v", u, !low)
		}
		for _, k := range secrets() {
			if low {
				refused(t, k, u)
			} else {
				taken(t, k, u)
			}
		}
	}
}
