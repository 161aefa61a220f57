package wal

import (
	"hollowtree/api"
	"hollowtree/octet"
	"hollowtree/sha"
)

// What a transaction's sectors begin with, how many of its bytes each but the mark has, and where a mark's parts stand.
const (
	dataFirst = 0
	markFirst = 1
	share     = api.Sector - 1
	sizeAt    = 1 + 8 + 4 // the turn and the number are ahead
	checkAt   = 48
)

// beginning is the beginning of a hash.
type beginning [16]byte

// digest is the beginning of the hash of bytes.
func digest(b []byte) beginning {
	hash := sha.Sum(b)
	return beginning(hash[:len(beginning{})])
}

// mark is what a transaction's mark says of it.
type mark struct {
	turn   uint64
	number uint32
	size   uint32
	hash   beginning
}

// describe is what the mark of a transaction says.
func describe(turn uint64, number int, tx []byte) mark {
	return mark{turn, uint32(number), uint32(len(tx)), digest(tx)}
}

// block is the mark's bytes.
func (m mark) block() api.Block {
	var b api.Block
	at := 0
	put := func(part ...byte) { at += copy(b[at:], part) }
	put(markFirst)
	put(octet.Put64(nil, m.turn)...)
	put(octet.Put32(nil, m.number)...)
	put(octet.Put32(nil, m.size)...)
	put(m.hash[:]...)
	at = checkAt
	check := digest(b[:at])
	put(check[:]...)
	return b
}

// read tells what a sector says as a mark of that turn and number, and whether it is one: put together anew it is the same then.
func read(b api.Block, turn uint64, number int) (mark, bool) {
	m := mark{turn: turn, number: uint32(number)}
	r := octet.Read(b[sizeAt:])
	m.size = r.U32()
	copy(m.hash[:], r.Raw(len(m.hash)))
	return m, m.block() == b
}

// sector is one that holds a part of a transaction, at most share bytes.
func sector(part []byte) api.Block {
	b := api.Block{dataFirst}
	copy(b[1:], part)
	return b
}
