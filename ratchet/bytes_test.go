package ratchet_test

import (
	"bytes"
	"fmt"
	"math"
	"math/rand"
	"slices"
	"testing"

	"hollowtree/api"
	"hollowtree/ratchet"
)

// puts holds the bytes against the chapter's words, and hands them on.
func puts(t *testing.T, r api.Ratchet) []byte {
	t.Helper()
	b, err := ratchet.Put(r)
	if want := bytesOf(r); err != api.OK || !bytes.Equal(b, want) {
		t.Errorf("Put of %v: % x, %d; not % x", r, b, err, want)
	}
	return b
}

// gets holds a ratchet against what is wanted.
func gets(t *testing.T, b []byte, want api.Ratchet) {
	t.Helper()
	if r, err := ratchet.Get(b); err != api.OK || !alike(r, want) {
		t.Errorf("Get of % x: %v, %d; not %v", b, r, err, want)
	}
}

// getsNot looks for an error, and the zero ratchet beside it.
func getsNot(t *testing.T, what string, b []byte, want api.Errno) {
	t.Helper()
	if r, err := ratchet.Get(b); err != want || !alike(r, api.Ratchet{}) {
		t.Errorf("Get of %s: %v, %d; not %d", what, r, err, want)
	}
}

// P17.4: the bytes, place by place.
func TestPutPlaces(t *testing.T) {
	r := some(2)
	r.Sent, r.Received, r.Before = 0x04030201, 0x14131211, 0x24232221
	r.Skipped[1].Number = 0x84838281
	b, err := ratchet.Put(r)
	if err != api.OK || len(b) != 717 || api.RatchetSize != 717 {
		t.Fatalf("%d bytes, %d", len(b), err)
	}
	one, other := r.Skipped[0], r.Skipped[1]
	for _, x := range []struct {
		what     string
		from, to int
		want     []byte
	}{
		{"Root", 0, 32, r.Root[:]}, {"Own", 32, 64, r.Own[:]}, {"Peer", 64, 96, r.Peer[:]}, {"Send", 96, 128, r.Send[:]}, {"Receive", 128, 160, r.Receive[:]},
		{"Sent", 160, 164, []byte{1, 2, 3, 4}}, {"Received", 164, 168, []byte{0x11, 0x12, 0x13, 0x14}}, {"Before", 168, 172, []byte{0x21, 0x22, 0x23, 0x24}}, {"how many", 172, 173, []byte{2}},
		{"a Key", 173, 205, one.Key[:]}, {"its Number", 205, 209, []byte{3, 0, 0, 0}}, {"its secret", 209, 241, one.Secret[:]},
		{"the other Key", 241, 273, other.Key[:]}, {"its Number", 273, 277, []byte{0x81, 0x82, 0x83, 0x84}}, {"its secret", 277, 309, other.Secret[:]},
		{"what is behind", 309, 717, make([]byte, 408)},
	} {
		if !bytes.Equal(b[x.from:x.to], x.want) {
			t.Errorf("%s: % x, not % x", x.what, b[x.from:x.to], x.want)
		}
	}
}

// P17.4: of no keys, of some, and of MaxSkip; of the zero ratchet noughts.
func TestPut(t *testing.T) {
	for n := range 9 {
		puts(t, some(n))
	}
	if b := puts(t, api.Ratchet{}); !bytes.Equal(b, make([]byte, 717)) {
		t.Errorf("Put of the zero one: % x", b)
	}
	r := some(0)
	r.Skipped = []api.Skip{}
	puts(t, r)
	r.Sent, r.Received, r.Before = bound, bound, bound
	puts(t, r)
}

// P17.4: ErrRatchet of what may not be.
func TestPutNot(t *testing.T) {
	for _, r := range append(notRatchets(), some(256), some(257), some(264)) {
		if b, err := ratchet.Put(r); err != api.ErrRatchet || len(b) != 0 {
			t.Errorf("Put: % x, %d", b, err)
		}
	}
}

// P17.4, P17.5: Get of Put is the ratchet, and Put of Get the bytes.
func TestPutGet(t *testing.T) {
	d := rand.New(rand.NewSource(20))
	list := []api.Ratchet{{}, some(0), some(1), some(8)}
	for range 500 {
		r := drawnRatchet(d, []api.Key{drawn(d), drawn(d)})
		if mayBe(r) {
			list = append(list, r)
		}
	}
	for _, r := range list {
		b := puts(t, r)
		gets(t, b, r)
		got, _ := ratchet.Get(b)
		if again := puts(t, got); !bytes.Equal(again, b) || !ratchet.Same(got, r) {
			t.Errorf("Put of Get: % x, not % x", again, b)
		}
	}
}

// P17.4: ErrSize of other counts of bytes, whatever they say.
func TestGetSize(t *testing.T) {
	right := bytesOf(some(3))
	getsNot(t, "nil", nil, api.ErrSize)
	long := append(slices.Clone(right), make([]byte, 2000)...)
	for n := range len(long) {
		if n != 717 {
			getsNot(t, fmt.Sprint(n, " bytes"), long[:n], api.ErrSize)
			getsNot(t, fmt.Sprint(n, " bytes FF"), bytes.Repeat([]byte{0xff}, n), api.ErrSize)
		}
	}
	gets(t, long[:717], some(3))
	getsNot(t, "717 bytes FF", bytes.Repeat([]byte{0xff}, 717), api.ErrRatchet)
	gets(t, make([]byte, 717), api.Ratchet{})
}

// P17.4: counts above MaxSkip, and such as are none of the keys that follow.
func TestGetCount(t *testing.T) {
	for n := range 256 {
		for _, r := range []api.Ratchet{some(0), some(8)} {
			b := bytesOf(r)
			b[172] = byte(n)
			what := fmt.Sprint("the count ", n, " of ", len(r.Skipped), " keys")
			switch {
			case n == len(r.Skipped):
				gets(t, b, r)
			case n == 1 && len(r.Skipped) == 0:
				one := copyOf(r)
				one.Skipped = []api.Skip{{}}
				gets(t, b, one)
			default:
				getsNot(t, what, b, api.ErrRatchet)
			}
		}
	}
}

// P17.4: a byte that is no nought behind the last key, at each place.
func TestGetBehind(t *testing.T) {
	for n := range 9 {
		for at := 173 + 68*n; at < 717; at++ {
			b := bytesOf(some(n))
			b[at] = 1 << (at % 8)
			getsNot(t, fmt.Sprint(n, " keys, a byte at ", at), b, api.ErrRatchet)
		}
	}
}

// P17.4: each bit of what is ahead of the end is told.
func TestGetBits(t *testing.T) {
	r := some(3)
	right := bytesOf(r)
	for bit := range 8 * (173 + 68*3) {
		b := slices.Clone(right)
		b[bit/8] ^= 1 << (bit % 8)
		got, err := ratchet.Get(b)
		if bit/8 == 172 {
			continue
		}
		if err != api.OK || alike(got, r) || !bytes.Equal(bytesOf(got), b) {
			// The highest bit of a number of r, which is not 0, makes it greater than 2^31.
			if err != api.ErrRatchet || bit/8 < 160 || bit/8 >= 172 || bit%32 != 31 {
				t.Errorf("bit %d: %v, %d", bit, got, err)
			}
		}
	}
}

// P17.4: numbers at their limit, and above it.
func TestGetNumbers(t *testing.T) {
	for at := range 3 {
		with := func(n uint32) api.Ratchet {
			r := some(2)
			*[]*uint32{&r.Sent, &r.Received, &r.Before}[at] = n
			return r
		}
		for _, n := range []uint32{0, 1, bound - 1, bound} {
			gets(t, bytesOf(with(n)), with(n))
		}
		for _, n := range []uint32{bound + 1, bound + 256, math.MaxUint32} {
			getsNot(t, fmt.Sprint("number ", at, " of ", n), bytesOf(with(n)), api.ErrRatchet)
		}
	}
	r := some(8)
	r.Skipped[7].Number = math.MaxUint32
	gets(t, bytesOf(r), r)
}

// P17.4: two keys for one Key and Number.
func TestGetTwice(t *testing.T) {
	for i := range 8 {
		for j := range i {
			r := some(8)
			r.Skipped[i].Key = r.Skipped[j].Key
			r.Skipped[i].Number = r.Skipped[j].Number
			getsNot(t, "two keys for one message", bytesOf(r), api.ErrRatchet)
			r.Skipped[i].Number += 100
			gets(t, bytesOf(r), r)
		}
	}
	b := bytesOf(some(0))
	b[172] = 2
	getsNot(t, "two Skips of noughts", b, api.ErrRatchet)
}

// isSame holds Same, both ways.
func isSame(t *testing.T, what string, a, b api.Ratchet, want bool) {
	t.Helper()
	if ratchet.Same(a, b) != want || ratchet.Same(b, a) != want {
		t.Errorf("%s: Same is %v, and the other way about %v", what, ratchet.Same(a, b), ratchet.Same(b, a))
	}
}

// P17.4: each bit of each key and number.
func TestSameFields(t *testing.T) {
	for n := range 10 {
		isSame(t, "a copy", some(n), some(n), true)
	}
	for bit := range 256 {
		for at := range 5 {
			r := some(2)
			[]*api.Key{&r.Root, &r.Own, &r.Peer, &r.Send, &r.Receive}[at][bit/8] ^= 1 << (bit % 8)
			isSame(t, fmt.Sprint("key ", at, ", bit ", bit), r, some(2), false)
		}
	}
	for bit := range 32 {
		for at := range 3 {
			r := some(2)
			*[]*uint32{&r.Sent, &r.Received, &r.Before}[at] ^= 1 << bit
			isSame(t, fmt.Sprint("number ", at, ", bit ", bit), r, some(2), false)
		}
	}
}

// P17.4: each field of each Skip.
func TestSameSkips(t *testing.T) {
	for at := range 8 {
		for bit := range 256 {
			r := some(8)
			r.Skipped[at].Key[bit/8] ^= 1 << (bit % 8)
			isSame(t, fmt.Sprint("Skip ", at, ", Key, bit ", bit), r, some(8), false)
			r = some(8)
			r.Skipped[at].Secret[bit/8] ^= 1 << (bit % 8)
			isSame(t, fmt.Sprint("Skip ", at, ", Secret, bit ", bit), r, some(8), false)
		}
		for bit := range 32 {
			r := some(8)
			r.Skipped[at].Number ^= 1 << bit
			isSame(t, fmt.Sprint("Skip ", at, ", Number, bit ", bit), r, some(8), false)
		}
	}
}

// P17.4: the order of Skipped, and how many there are; a nil list and an empty one are one.
func TestSameLists(t *testing.T) {
	for i := range 8 {
		for j := range i {
			r := some(8)
			r.Skipped[i], r.Skipped[j] = r.Skipped[j], r.Skipped[i]
			isSame(t, fmt.Sprint("Skips ", j, " and ", i), r, some(8), false)
		}
	}
	for n := range 8 {
		isSame(t, "one more", some(n), some(n+1), false)
		r := some(n)
		r.Skipped = append(r.Skipped, api.Skip{})
		isSame(t, "one of noughts more", r, some(n), false)
	}
	r := some(0)
	r.Skipped = []api.Skip{}
	isSame(t, "a nil list and an empty one", r, some(0), true)
	r.Skipped = some(3).Skipped[:0]
	isSame(t, "a list with room", r, some(0), true)
	isSame(t, "the zero one", api.Ratchet{}, api.Ratchet{}, true)
	isSame(t, "the zero one with an empty list", api.Ratchet{}, api.Ratchet{Skipped: []api.Skip{}}, true)
	isSame(t, "the zero one and another one", api.Ratchet{}, some(0), false)
}

// P17.4: Same of what may not be holds field by field, too.
func TestSameOfNone(t *testing.T) {
	for i, a := range notRatchets() {
		for j, b := range notRatchets() {
			isSame(t, fmt.Sprint(i, " and ", j), a, b, i == j)
		}
	}
}
