package onion_test

import (
	"bytes"
	"slices"
	"testing"

	"hollowtree/api"
	"hollowtree/onion"
)

// roomy is a copy of a list with room behind its end that is filled, and all of it together.
func roomy[T any](list []T, fill T) (part, all []T) {
	all = append(slices.Clone(list), slices.Repeat([]T{fill}, 400)...)
	return all[:len(list)], all
}

func roomyBytes(b []byte) (part, all []byte) { return roomy(b, 0xee) }

func roomyKeys(list []api.Key) (part, all []api.Key) {
	return roomy(list, api.Key(times(32, 0xee)))
}

// spoil changes each byte of a list, and the room behind its end; spoilKeys each byte of its keys.
func spoil(b []byte) {
	b = b[:cap(b)]
	for i := range b {
		b[i] ^= 0x55
	}
}

func spoilKeys(list []api.Key) {
	list = list[:cap(list)]
	for i := range list {
		spoil(list[i][:])
	}
}

func same[T comparable](t *testing.T, what string, got, want []T) {
	t.Helper()
	if !slices.Equal(got, want) {
		t.Errorf("%s: %v, not %v", what, got, want)
	}
}

// R3: Build neither changes nor keeps its lists, and what it answers is memory of its own; of no hops, too.
func TestBuildMemory(t *testing.T) {
	for n := range 4 {
		for _, size := range []int{0, 1, 146} {
			hops, allHops := roomyKeys(publics(secrets(n)))
			once, allOnce := roomyKeys(onces(n))
			payload, all := roomyBytes(text(9, size))
			wasHops, wasOnce, was := slices.Clone(allHops), slices.Clone(allOnce), bytes.Clone(all)
			want, wantShares := onionOf(7, publics(secrets(n)), onces(n), text(9, size)), sharesOf(publics(secrets(n)), onces(n))

			one, shares, _ := onion.Build(7, hops, once, payload)
			two, others, _ := onion.Build(7, hops, once, payload)
			for range 2 {
				same(t, "hops are changed", allHops, wasHops)
				same(t, "one-time secrets are changed", allOnce, wasOnce)
				same(t, "the payload is changed", all, was)
				spoil(one)
				spoilKeys(shares)
			}
			same(t, "an onion is answered twice", two, want)
			same(t, "shares are answered twice", others, wantShares)
			spoil(all)
			spoilKeys(allHops)
			spoilKeys(allOnce)
			same(t, "what is handed in is kept in the onion", two, want)
			same(t, "what is handed in is kept in the shares", others, wantShares)
		}
	}
}

// R3: what is refused is not changed either.
func TestBuildRefusedMemory(t *testing.T) {
	for n := 1; n <= 4; n++ {
		for m := range 5 {
			list := publics(secrets(n))
			list[n-1] = api.Key{1}
			hops, allHops := roomyKeys(list)
			once, allOnce := roomyKeys(onces(m))
			payload, all := roomyBytes(text(9, 146))
			wasHops, wasOnce, was := slices.Clone(allHops), slices.Clone(allOnce), bytes.Clone(all)
			if _, _, err := onion.Build(7, hops, once, payload); err == api.OK {
				t.Errorf("%d hops, %d one-time secrets: built", n, m)
			}
			same(t, "hops are changed", allHops, wasHops)
			same(t, "one-time secrets are changed", allOnce, wasOnce)
			same(t, "the payload is changed", all, was)
		}
	}
}

// R3: one list may be handed in as hops and as one-time secrets, and an onion as a payload.
func TestBuildOneList(t *testing.T) {
	list := publics(secrets(3))
	b, shares := builds(t, 7, list, list, text(9, 20))
	same(t, "the list is changed", list, publics(secrets(3)))
	want := bytes.Clone(b)
	builds(t, 7, shares, list, b)
	same(t, "the onion is changed", b, want)
}

// R3: Peel neither changes nor keeps an onion, also one that it refuses, and answers memory of its own.
func TestPeelMemory(t *testing.T) {
	secret := secrets(1)[0]
	hop := publics(secrets(1))[0]
	for _, size := range []int{0, 1, 146, 194} {
		b, all := roomyBytes(layerOf(7, onces(1)[0], hop, text(9, size)))
		was := bytes.Clone(all)
		one, _, _ := onion.Peel(7, secret, b)
		two, _, _ := onion.Peel(7, secret, b)
		same(t, "the onion is changed", all, was)
		spoil(one)
		same(t, "the onion is answered", all, was)
		same(t, "one memory is answered twice", two, text(9, size))
		spoil(all)
		same(t, "the onion is kept", two, text(9, size))
	}
	for _, list := range [][]byte{nil, text(2, 47), times(48, 0), text(2, 48), text(2, 194)} {
		b, all := roomyBytes(list)
		was := bytes.Clone(all)
		if _, _, err := onion.Peel(7, secret, b); err == api.OK {
			t.Errorf("%d bytes are peeled", len(b))
		}
		same(t, "what is refused is changed", all, was)
	}
}

// R3: Wrap neither changes nor keeps a reply, and answers memory of its own.
func TestWrapMemory(t *testing.T) {
	share := someShares(1)[0]
	for _, size := range sizes() {
		reply, all := roomyBytes(text(3, size))
		was := bytes.Clone(all)
		one, two := onion.Wrap(7, share, reply), onion.Wrap(7, share, reply)
		same(t, "the reply is changed", all, was)
		spoil(one)
		same(t, "the reply is answered", all, was)
		same(t, "one memory is answered twice", two, sealedOf(7, share, "back", text(3, size)))
		spoil(all)
		same(t, "the reply is kept", two, sealedOf(7, share, "back", text(3, size)))
	}
}

// R3: Unwrap neither changes nor keeps its lists, and answers memory of its own; of no shares, too.
func TestUnwrapMemory(t *testing.T) {
	for n := range 4 {
		for _, size := range []int{0, 1, 130} {
			shares, allShares := roomyKeys(someShares(n))
			reply, all := roomyBytes(wrappedOf(7, someShares(n), text(3, size)))
			wasShares, was := slices.Clone(allShares), bytes.Clone(all)
			one, _ := onion.Unwrap(7, shares, reply)
			two, _ := onion.Unwrap(7, shares, reply)
			for range 2 {
				same(t, "shares are changed", allShares, wasShares)
				same(t, "the reply is changed", all, was)
				spoil(one)
			}
			same(t, "one memory is answered twice", two, text(3, size))
			spoil(all)
			spoilKeys(allShares)
			same(t, "what is handed in is kept", two, text(3, size))
		}
	}
}

// R3: what Unwrap refuses is not changed, wherever it is refused.
func TestUnwrapRefusedMemory(t *testing.T) {
	for m := range 3 {
		shares, allShares := roomyKeys(someShares(3))
		reply, all := roomyBytes(wrappedOf(7, someShares(m), text(3, 130)))
		wasShares, was := slices.Clone(allShares), bytes.Clone(all)
		unwrapsNot(t, "too few wraps", 7, shares, reply)
		same(t, "shares are changed", allShares, wasShares)
		same(t, "the reply is changed", all, was)
	}
}
