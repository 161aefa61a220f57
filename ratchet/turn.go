package ratchet

import (
	"slices"

	"hollowtree/api"
	"hollowtree/curve"
	"hollowtree/kdf"
)

// which is what tells a message from all others: its sender's ratchet key, and its number.
type which struct {
	key    api.Key
	number uint32
}

func forWhat(s api.Skip) which { return which{s.Key, s.Number} }

// isFor answers what asks a key that was passed over whether it is for that message.
func isFor(w which) func(api.Skip) bool {
	return func(s api.Skip) bool { return forWhat(s) == w }
}

// there tells whether there is such a chain.
func there(chain api.Key) bool { return chain != api.Key{} }

// find is the key of the message with that header, and the ratchet behind it. Its list is a copy, so that the one that was handed in stays as it is.
func find(r api.Ratchet, h api.Header, fresh api.Key) (behind api.Ratchet, key api.Key, err api.Errno) {
	behind = r
	behind.Skipped = slices.Clone(r.Skipped)
	at := slices.IndexFunc(behind.Skipped, isFor(which{h.Key, h.Number}))
	if at >= 0 {
		key = behind.Skipped[at].Secret
		behind.Skipped = slices.Delete(behind.Skipped, at, at+1)
		return behind, key, api.OK
	}
	if err = refused(r, h); err != api.OK {
		return api.Ratchet{}, api.Key{}, err
	}
	if h.Key != r.Peer {
		behind = turn(passOver(behind, h.Prev), h.Key, fresh)
	}
	behind, key = step(passOver(behind, h.Number))
	return behind, key, api.OK
}

// refused tells why a message whose key was not passed over is not looked for. Room is asked for ahead of it: so passing over ends soon, whatever number a stranger says.
func refused(r api.Ratchet, h api.Header) api.Errno {
	switch {
	case curve.Low(h.Key):
		return api.ErrLow
	case h.Key == r.Peer && (!there(r.Receive) || h.Number < r.Received):
		return api.ErrOld
	case wouldPass(r, h) > uint64(api.MaxSkip-len(r.Skipped)):
		return api.ErrSkip
	}
	return api.OK
}

// wouldPass is how many keys would be passed over on the way to a message that is not old.
func wouldPass(r api.Ratchet, h api.Header) uint64 {
	if h.Key == r.Peer {
		return uint64(h.Number - r.Received)
	}
	n := uint64(h.Number)
	if there(r.Receive) && h.Prev > r.Received {
		n += uint64(h.Prev - r.Received)
	}
	return n
}

// passOver keeps the keys of the messages up to n for when these come. Its ratchet's list is the caller's own copy.
func passOver(r api.Ratchet, n uint32) api.Ratchet {
next:
	if r.Received < n && there(r.Receive) {
		s := api.Skip{Key: r.Peer, Number: r.Received}
		r, s.Secret = step(r)
		r.Skipped = append(r.Skipped, s)
		goto next
	}
	return r
}

// step takes the next key of the chain that is received.
func step(r api.Ratchet) (behind api.Ratchet, key api.Key) {
	r.Receive, key = kdf.Step(r.Receive)
	r.Received++
	return r, key
}

// turn begins both chains anew: what is received by the secret that the peer knew when it made its key, what is sent by the fresh one.
func turn(r api.Ratchet, peer, fresh api.Key) api.Ratchet {
	r.Before, r.Sent, r.Received = r.Sent, 0, 0
	r.Peer = peer
	r.Root, r.Receive = stir(r.Root, r.Own, peer)
	r.Own = fresh
	r.Root, r.Send = stir(r.Root, fresh, peer)
	return r
}

// stir lets what a secret and a key agree upon go into a root, of which a chain begins, too. Nobody hands in a low key: they are refused ahead of it.
func stir(root, secret, peer api.Key) (next, chain api.Key) {
	shared, _ := curve.Agree(secret, peer)
	return kdf.Two(root, ofTurn, shared[:])
}
