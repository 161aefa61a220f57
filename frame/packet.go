package frame

import (
	"hollowtree/api"
	"hollowtree/octet"
)

// PutAnnounce: P14.3.
func PutAnnounce(a api.Announce) ([]byte, api.Errno) {
	if !announceMayBe(a) {
		return nil, api.ErrField
	}
	b := octet.Put64([]byte{api.FrameAnnounce}, a.Round)
	b = append(b, byte(len(a.Hops)))
	for _, key := range a.Hops {
		b = append(b, key[:]...)
	}
	return append(b, make([]byte, api.AnnounceSize-len(b))...), api.OK
}

// GetAnnounce: P14.3. Where the count says more hops than the bytes have room for, keys are read as noughts, and so many hops may not be.
func GetAnnounce(b []byte) (api.Announce, api.Errno) {
	if len(b) != api.AnnounceSize {
		return api.Announce{}, api.ErrSize
	}
	r := octet.Read(b)
	kind := one(r)
	a := api.Announce{Round: r.U64()}
	for range one(r) {
		a.Hops = append(a.Hops, r.Key())
	}
	if kind != api.FrameAnnounce || !announceMayBe(a) || !octet.Zero(r.Raw(r.Left())) {
		return api.Announce{}, api.ErrField
	}
	return a, api.OK
}

func announceMayBe(a api.Announce) bool {
	return a.Round > 0 && len(a.Hops) >= 1 && len(a.Hops) <= api.MaxHops
}

// PutUp: P14.4.
func PutUp(u api.Up) ([]byte, api.Errno) {
	return packet{u.Client, u.Slot, u.Round, u.Onion}.put(api.FrameUp, OnionSize)
}

// GetUp: P14.4.
func GetUp(b []byte) (api.Up, api.Errno) {
	p, err := packetOf(b, api.FrameUp, OnionSize)
	return api.Up{Client: p.client, Slot: p.slot, Round: p.round, Onion: p.body}, err
}

// PutDown: P14.4.
func PutDown(d api.Down) ([]byte, api.Errno) {
	return packet{d.Client, d.Slot, d.Round, d.Reply}.put(api.FrameDown, ReplySize)
}

// GetDown: P14.4.
func GetDown(b []byte) (api.Down, api.Errno) {
	p, err := packetOf(b, api.FrameDown, ReplySize)
	return api.Down{Client: p.client, Slot: p.slot, Round: p.round, Reply: p.body}, err
}

// packet is what an Up and a Down have in common: all but the first byte, and the sizes that a body can have.
type packet struct {
	client, slot int
	round        uint64
	body         []byte
}

func (p packet) put(kind byte, size func(hops int) int) ([]byte, api.Errno) {
	if !p.mayBe() || !ofSomeHops(size, len(p.body)) {
		return nil, api.ErrField
	}
	b := octet.Put64([]byte{kind, byte(p.client), byte(p.slot)}, p.round)
	return append(b, p.body...), api.OK
}

// packetOf reads one of a kind. The size is asked for ahead of the Reader, which would copy bytes of whatever length.
func packetOf(b []byte, kind int, size func(hops int) int) (packet, api.Errno) {
	if !ofSomeHops(size, len(b)-api.UpSize) {
		return packet{}, api.ErrSize
	}
	r := octet.Read(b)
	first := one(r)
	var p packet
	p.client = one(r)
	p.slot = one(r)
	p.round = r.U64()
	p.body = r.Raw(r.Left())
	if first != kind || !p.mayBe() {
		return packet{}, api.ErrField
	}
	return p, api.OK
}

// mayBe leaves the body's size to those who know of which kind it is.
func (p packet) mayBe() bool {
	return below(p.client, api.MaxClients) && below(p.slot, api.MaxContacts) && p.round > 0
}

func below(n, end int) bool { return n >= 0 && n < end }
