package table

import (
	"hollowtree/api"
	"hollowtree/octet"
	"hollowtree/wal"
)

// What a change begins with.
const (
	gone = 0
	put  = 1
)

// change is a row that is put, or a key that goes (its value has no bytes then).
type change struct {
	kind  byte
	table int
	key   string
	value []byte
}

// count puts a number of two bytes behind others. They are not handed to octet, which would copy all of them for each number.
func count(b []byte, n int) []byte { return append(b, octet.Put16(nil, uint16(n))...) }

// counted puts bytes behind others, and how many they are ahead of them.
func counted(b, part []byte) []byte { return append(count(b, len(part)), part...) }

// next reads what counted put.
func next(r *octet.Reader) []byte {
	n := r.U16()
	return r.Raw(int(n))
}

// one reads a byte, 0 where there is none.
func one(r *octet.Reader) byte {
	var b [1]byte
	copy(b[:], r.Raw(1))
	return b[0]
}

// done tells whether a Reader has read all of its bytes, and nothing beyond them.
func done(r *octet.Reader) bool { return r.Err() == api.OK && r.Left() == 0 }

// bytes are those of the base.
func (ts tables) bytes() []byte {
	var b []byte
	for _, s := range ts {
		b = count(b, len(s.rows))
		for key, value := range s.all() {
			b = counted(b, []byte(key))
			b = counted(b, value)
		}
	}
	return b
}

// tablesOf reads the bytes of a base, and tells whether they are such. A key that is not above the one ahead, or above none at all, ends it; so does one that is not there to be read.
func tablesOf(b []byte, shapes []api.Shape) (tables, bool) {
	r := octet.Read(b)
	var ts tables
reading:
	for _, shape := range shapes {
		s, last := sheet{shape, map[string][]byte{}}, ""
		for range r.U16() {
			key := string(next(r))
			value := next(r)
			if key <= last || !s.takes(key, value) {
				break reading
			}
			s.rows[key], last = value, key
		}
		ts = append(ts, s)
	}
	return ts, done(r) && len(ts) == len(shapes) && ts.fit()
}

// bytesOf are the bytes of changes.
func bytesOf(changes []change) []byte {
	b := count(nil, len(changes))
	for _, c := range changes {
		b = append(b, c.kind, byte(c.table))
		b = counted(b, []byte(c.key))
		if c.kind == put {
			b = counted(b, c.value)
		}
	}
	return b
}

// changesOf reads the bytes of changes, and tells whether they are such.
func changesOf(tx []byte) ([]change, bool) {
	r := octet.Read(tx)
	n := int(r.U16())
	var list []change
reading:
	for len(list) < n {
		var c change
		c.kind = one(r)
		c.table = int(one(r))
		c.key = string(next(r))
		switch c.kind {
		case put:
			c.value = next(r)
		case gone:
		default:
			break reading
		}
		if r.Err() != api.OK {
			break reading
		}
		list = append(list, c)
	}
	return list, done(r) && len(list) == n
}

// stateOf is the state of a log, and whether it is a base of these shapes.
func stateOf(l *wal.Log, shapes []api.Shape) (tables, bool) {
	snapshot := l.Snapshot()
	if len(snapshot) == 0 { // a log without a snapshot: no rows, as the bytes of so many empty tables say it
		snapshot = make([]byte, 2*len(shapes))
	}
	state, right := tablesOf(snapshot, shapes)
	if !right {
		return nil, false
	}
	for _, tx := range l.All() {
		if !state.turn(tx) {
			return nil, false
		}
	}
	return state, true
}

// turn carries out a transaction, and tells whether it can be.
func (ts tables) turn(tx []byte) bool {
	list, right := changesOf(tx)
	if !right {
		return false
	}
	for _, c := range list {
		if !ts.carry(c) {
			return false
		}
	}
	return ts.fit()
}
