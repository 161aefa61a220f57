package extent

import (
	"hollowtree/api"
	"hollowtree/disk"
	"hollowtree/octet"
	"hollowtree/sha"
)

// What a superblock begins with, and where its parts stand.
const (
	letters = "hollowtree"
	placeAt = len(letters)
	turnAt  = placeAt + 2 // a nought is between
	checkAt = 48
)

// mark is the beginning of a hash.
type mark [16]byte

// digest is the mark of bytes.
func digest(b []byte) mark {
	hash := sha.Sum(b)
	return mark(hash[:len(mark{})])
}

// super is what a superblock says of a snapshot.
type super struct {
	place byte
	turn  uint64
	size  uint32
	hash  mark
}

// describe is what the superblock of a snapshot says.
func describe(place byte, turn uint64, b []byte) super {
	return super{place, turn, uint32(len(b)), digest(b)}
}

// block is the superblock's bytes.
func (s super) block() api.Block {
	var b api.Block
	at := 0
	put := func(part ...byte) { at += copy(b[at:], part) }
	put([]byte(letters)...)
	put(s.place, 0)
	put(octet.Put64(nil, s.turn)...)
	put(octet.Put32(nil, s.size)...)
	put(s.hash[:]...)
	at = checkAt
	check := digest(b[:at])
	put(check[:]...)
	return b
}

// read tells what a superblock says, and whether it is right: put together anew it is the same then.
func read(b api.Block) (super, bool) {
	s := super{place: b[placeAt]}
	r := octet.Read(b[turnAt:])
	s.turn = r.U64()
	s.size = r.U32()
	copy(s.hash[:], r.Raw(len(s.hash)))
	return s, s.place < places && s.block() == b
}

// counts is the one of both that counts; false: neither is right.
func counts(first, second api.Block) (super, bool) {
	one, oneRight := read(first)
	two, twoRight := read(second)
	switch {
	case oneRight && twoRight && two.turn > one.turn:
		return two, true
	case oneRight:
		return one, true
	case twoRight:
		return two, true
	}
	return super{}, false
}

// current is the superblock that counts, as the disk has it now.
func current(d *disk.Disk) (super, api.Errno) {
	var both [superblocks]api.Block
	for i := range both {
		block, err := d.Read(i)
		if err != api.OK {
			return super{}, err
		}
		both[i] = block
	}
	now, there := counts(both[0], both[1])
	if !there {
		return super{}, api.ErrFormat
	}
	return now, api.OK
}
