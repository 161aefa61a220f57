package frame_test

import (
	"fmt"
	"math"
	"slices"
	"testing"

	"hollowtree/api"
	"hollowtree/frame"
)

// rounds above 0: the least, the greatest, such whose bytes are all unlike, and one of each bit.
func rounds() []uint64 {
	list := []uint64{1, 2, 0x0807060504030201, 0xf8f9fafbfcfdfeff, math.MaxUint64 - 1, math.MaxUint64}
	for bit := range 64 {
		list = append(list, 1<<bit)
	}
	return list
}

// P14.3: an announcement's bytes, field by field, and back, of each count of hops.
func TestAnnounce(t *testing.T) {
	for _, round := range rounds() {
		for n := 1; n <= 3; n++ {
			a := api.Announce{Round: round, Hops: keys(n)}
			want := slices.Concat([]byte{1}, low64(round), []byte{byte(n)})
			for _, k := range a.Hops {
				want = append(want, k[:]...)
			}
			want = append(want, noughts(96-32*n)...)
			b, err := frame.PutAnnounce(a)
			puts(t, "PutAnnounce", b, err, want)
			got, err := frame.GetAnnounce(want)
			gets(t, "GetAnnounce", got, err, a)
		}
	}
}

// P14.3: keys are whatever they are: noughts, the same ones, the greatest.
func TestAnnounceKeys(t *testing.T) {
	greatest := api.Key(times(32, 0xff))
	for _, hops := range [][]api.Key{
		{{}}, {{}, {}}, {{}, {}, {}}, {key(1), {}}, {{}, key(1)}, {key(1), key(1)}, {key(1), {}, key(1)},
		{greatest}, {greatest, greatest}, {greatest, greatest, greatest},
	} {
		a := api.Announce{Round: 1, Hops: hops}
		b, err := frame.PutAnnounce(a)
		puts(t, "PutAnnounce", b, err, announceBytes(1, hops))
		got, err := frame.GetAnnounce(announceBytes(1, hops))
		gets(t, "GetAnnounce", got, err, a)
	}
}

// P14.3: what may not be is not put.
func TestNoAnnounce(t *testing.T) {
	for n := range 6 {
		b, err := frame.PutAnnounce(api.Announce{Hops: keys(n)})
		refuses(t, fmt.Sprint("PutAnnounce of the round 0, and of hops ", n), b, err, api.ErrField)
	}
	for _, round := range []uint64{1, math.MaxUint64} {
		for _, hops := range [][]api.Key{nil, {}, keys(4), keys(5), keys(255), keys(256), keys(256 + 1), keys(256 + 3)} {
			b, err := frame.PutAnnounce(api.Announce{Round: round, Hops: hops})
			refuses(t, fmt.Sprint("PutAnnounce of hops ", len(hops)), b, err, api.ErrField)
		}
	}
}

// P14.3: bytes that are no announcement's: each other first byte, the round 0, each other count of hops.
func TestNoAnnounceOfBytes(t *testing.T) {
	for n := 1; n <= 3; n++ {
		right := announceBytes(5, keys(n))
		for c := range 256 {
			if c != 1 {
				a, err := frame.GetAnnounce(changed(right, 0, byte(c)))
				refuses(t, fmt.Sprint("GetAnnounce of the first byte ", c), a, err, api.ErrField)
			}
			if c < 1 || c > 3 {
				a, err := frame.GetAnnounce(changed(right, 9, byte(c)))
				refuses(t, fmt.Sprint("GetAnnounce of the count of hops ", c), a, err, api.ErrField)
				a, err = frame.GetAnnounce(changed(announceBytes(5, nil), 9, byte(c)))
				refuses(t, fmt.Sprint("GetAnnounce of noughts, and the count of hops ", c), a, err, api.ErrField)
			}
		}
		a, err := frame.GetAnnounce(announceBytes(0, keys(n)))
		refuses(t, "GetAnnounce of the round 0", a, err, api.ErrField)
	}
}

// P14.3: each byte behind the last key is a nought.
func TestAnnounceNoughts(t *testing.T) {
	for n := 1; n <= 3; n++ {
		right := announceBytes(5, keys(n))
		for at := 10 + 32*n; at < 106; at++ {
			for c := 1; c < 256; c++ {
				a, err := frame.GetAnnounce(changed(right, at, byte(c)))
				refuses(t, fmt.Sprint("GetAnnounce of hops ", n, " with another byte at ", at), a, err, api.ErrField)
			}
		}
	}
	// keys that stand there without being counted are no noughts
	a, err := frame.GetAnnounce(changed(announceBytes(5, keys(3)), 9, 2))
	refuses(t, "GetAnnounce of three keys of which two count", a, err, api.ErrField)
	a, err = frame.GetAnnounce(changed(announceBytes(5, keys(2)), 9, 1))
	refuses(t, "GetAnnounce of two keys of which one counts", a, err, api.ErrField)
	// noughts that count are a key
	a, err = frame.GetAnnounce(changed(announceBytes(5, keys(2)), 9, 3))
	gets(t, "GetAnnounce of two keys, and of three that count", a, err, api.Announce{Round: 5, Hops: append(keys(2), api.Key{})})
}
