package table_test

import (
	"bytes"
	"encoding/binary"
	"math"
	"slices"
	"strings"
	"testing"

	"hollowtree/api"
	"hollowtree/disk"
	"hollowtree/extent"
	"hollowtree/table"
	"hollowtree/wal"
)

// row is a row of a table; a table of the tests is a list of them, by rising keys.
type row struct {
	key   string
	value []byte
}

func rows(list ...row) []row { return list }

// step is a change, as the tests say it.
type step struct {
	put   bool
	table int
	key   string
	value []byte
}

func puts(table int, key string, value ...byte) step { return step{true, table, key, value} }

func dels(table int, key string) step { return step{table: table, key: key} }

// text is n bytes, others for each kind.
func text(kind, n int) []byte {
	b := make([]byte, n)
	for i := range b {
		b[i] = byte(i*i + 31*i*kind + 5*kind + i>>6)
	}
	return b
}

// part is how many bytes there are, and these, by the chapter's words.
func part[T string | []byte](b []byte, x T) []byte {
	return append(binary.LittleEndian.AppendUint16(b, uint16(len(x))), x...)
}

// baseBytes are the bytes of a base by the chapter's words, right or not.
func baseBytes(tables ...[]row) []byte {
	var b []byte
	for _, list := range tables {
		b = binary.LittleEndian.AppendUint16(b, uint16(len(list)))
		for _, r := range list {
			b = part(part(b, r.key), r.value)
		}
	}
	return b
}

// stepBytes are the bytes of changes by the chapter's words, right or not.
func stepBytes(steps ...step) []byte {
	b := binary.LittleEndian.AppendUint16(nil, uint16(len(steps)))
	for _, s := range steps {
		if s.put {
			b = part(part(append(b, 1, byte(s.table)), s.key), s.value)
		} else {
			b = part(append(b, 0, byte(s.table)), s.key)
		}
	}
	return b
}

// logged is a new disk with a Log that has a snapshot (none: no bytes) and transactions.
func logged(t *testing.T, sectors int, snapshot []byte, txs ...[]byte) (*disk.Disk, *wal.Log) {
	t.Helper()
	d, err := disk.New(sectors)
	if err != api.OK {
		t.Fatalf("New(%d): %d", sectors, err)
	}
	s, err := extent.Format(d)
	if err != api.OK {
		t.Fatalf("Format: %d", err)
	}
	l, err := wal.Open(s)
	if err != api.OK {
		t.Fatalf("Open of the Store: %d", err)
	}
	if len(snapshot) > 0 {
		must(t, "Checkpoint", l.Checkpoint(snapshot), api.OK)
	}
	for _, tx := range txs {
		must(t, "Append", l.Append(tx), api.OK)
	}
	return d, l
}

// logOf is a Log that is opened on a disk.
func logOf(t *testing.T, d *disk.Disk) *wal.Log {
	t.Helper()
	s, err := extent.Open(d)
	if err != api.OK {
		t.Fatalf("Open of the disk: %d", err)
	}
	l, err := wal.Open(s)
	if err != api.OK {
		t.Fatalf("Open of the Store: %d", err)
	}
	return l
}

func opened(t *testing.T, l *wal.Log, shapes ...api.Shape) *table.Base {
	t.Helper()
	b, err := table.Open(l, shapes...)
	if b == nil || err != api.OK {
		t.Fatalf("Open of %v: %v %d", shapes, b, err)
	}
	return b
}

func unopened(t *testing.T, want api.Errno, l *wal.Log, shapes ...api.Shape) {
	t.Helper()
	if b, err := table.Open(l, shapes...); b != nil || err != want {
		t.Errorf("Open of %v: %v %d, not %d", shapes, b, err, want)
	}
}

// fresh is a Base without rows on a new disk.
func fresh(t *testing.T, sectors int, shapes ...api.Shape) (*disk.Disk, *wal.Log, *table.Base) {
	t.Helper()
	d, l := logged(t, sectors, nil)
	return d, l, opened(t, l, shapes...)
}

// answers holds an error against the one that there should be; must ends the test, too.
func answers(t *testing.T, what string, got, want api.Errno) {
	t.Helper()
	if got != want {
		t.Errorf("%s: %d, not %d", what, got, want)
	}
}

func must(t *testing.T, what string, got, want api.Errno) {
	t.Helper()
	if got != want {
		t.Fatalf("%s: %d, not %d", what, got, want)
	}
}

// does does changes, all of which can be.
func does(t *testing.T, b *table.Base, steps ...step) {
	t.Helper()
	for _, s := range steps {
		if s.put {
			must(t, "Put", b.Put(s.table, s.key, s.value), api.OK)
		} else {
			must(t, "Del", b.Del(s.table, s.key), api.OK)
		}
	}
}

func commits(t *testing.T, b *table.Base) {
	t.Helper()
	must(t, "Commit", b.Commit(), api.OK)
}

// tells is all that a Base has to tell, asked of each of its tables.
func tells(t *testing.T, b *table.Base, dirty int, tables ...[]row) {
	t.Helper()
	if got := b.Dirty(); got != dirty {
		t.Errorf("Dirty: %d, not %d", got, dirty)
	}
	if got, want := b.State(), baseBytes(tables...); !bytes.Equal(got, want) {
		t.Errorf("State: %x, not %x", got, want)
	}
	for i, list := range tables {
		if got := b.Len(i); got != len(list) {
			t.Errorf("Len(%d): %d, not %d", i, got, len(list))
		}
		all(t, b, i, list...)
		for _, r := range list {
			if got, err := b.Get(i, r.key); err != api.OK || !bytes.Equal(got, r.value) {
				t.Errorf("Get(%d, %x): %x %d, not %x", i, r.key, got, err, r.value)
			}
		}
		for _, key := range []string{"", "\x00", "a", "nobody", strings.Repeat("x", 65)} {
			if got, err := b.Get(i, key); !has(list, key) && (got != nil || err != api.ErrNone) {
				t.Errorf("Get(%d, %q) of what is not there: %x %d", i, key, got, err)
			}
		}
	}
	for _, i := range []int{math.MinInt, -1, len(tables), math.MaxInt} {
		if got, err := b.Get(i, "a"); got != nil || err != api.ErrArg || b.Len(i) != 0 {
			t.Errorf("table %d: Get %x %d, Len %d", i, got, err, b.Len(i))
		}
		all(t, b, i)
	}
}

// all holds what All tells, twice, against what it should.
func all(t *testing.T, b *table.Base, i int, want ...row) {
	t.Helper()
	seq := b.All(i)
	for range 2 {
		var got []row
		for key, value := range seq {
			got = append(got, row{key, value})
		}
		if !alike(got, want) {
			t.Errorf("All(%d): %q, not %q", i, got, want)
		}
	}
}

func alike(a, b []row) bool {
	return slices.EqualFunc(a, b, func(x, y row) bool { return x.key == y.key && bytes.Equal(x.value, y.value) })
}

func has(list []row, key string) bool {
	return slices.ContainsFunc(list, func(r row) bool { return r.key == key })
}

// logHas holds a Log's snapshot and transactions against what they should be, byte for byte.
func logHas(t *testing.T, l *wal.Log, snapshot []byte, txs ...[]byte) {
	t.Helper()
	if got := l.Snapshot(); !bytes.Equal(got, snapshot) {
		t.Errorf("the log's snapshot: %x, not %x", got, snapshot)
	}
	if got := l.Txs(); !slices.EqualFunc(got, txs, bytes.Equal) {
		t.Errorf("the log's transactions: %x, not %x", got, txs)
	}
}

// diskHas is what a Base that is opened on the disk tells, and the log that it is opened on.
func diskHas(t *testing.T, d *disk.Disk, shapes []api.Shape, tables ...[]row) {
	t.Helper()
	tells(t, opened(t, logOf(t, d), shapes...), 0, tables...)
}

// P13.1 to P13.4: the chapter's examples, row by row, on one base.
func TestExamples(t *testing.T) {
	shape := api.Shape{Rows: 2, Key: 3, Value: 4}
	d, l, b := fresh(t, 64, shape)
	answers(t, "Put(0, a, 01)", b.Put(0, "a", []byte{1}), api.OK)
	answers(t, "Put(0, b, none)", b.Put(0, "b", nil), api.OK)
	answers(t, "Put(0, c, 01)", b.Put(0, "c", []byte{1}), api.ErrFull)

	answers(t, "Put(0, abcd, ..)", b.Put(0, "abcd", []byte{1}), api.ErrLong)
	answers(t, "Put(0, none, ..)", b.Put(0, "", []byte{1}), api.ErrArg)
	answers(t, "Put(1, a, ..)", b.Put(1, "a", []byte{1}), api.ErrArg)
	answers(t, "Del(0, x)", b.Del(0, "x"), api.ErrNone)
	if got, err := b.Get(0, "x"); got != nil || err != api.ErrNone {
		t.Errorf("Get(0, x): %x %d", got, err)
	}

	if b.Dirty() != 2 {
		t.Errorf("Dirty: %d", b.Dirty())
	}
	answers(t, "Commit", b.Commit(), api.OK)
	if b.Dirty() != 0 {
		t.Errorf("Dirty behind Commit: %d", b.Dirty())
	}
	if got := b.State(); !bytes.Equal(got, []byte{2, 0, 1, 0, 0x61, 1, 0, 1, 1, 0, 0x62, 0, 0}) {
		t.Errorf("State: %x", got)
	}
	logHas(t, l, nil, []byte{2, 0, 1, 0, 1, 0, 0x61, 1, 0, 1, 1, 0, 1, 0, 0x62, 0, 0})

	answers(t, "Del(0, a)", b.Del(0, "a"), api.OK)
	if b.Len(0) != 1 {
		t.Errorf("Len behind Del: %d", b.Len(0))
	}
	answers(t, "Abort", b.Abort(), api.OK)
	if b.Len(0) != 2 {
		t.Errorf("Len behind Abort: %d", b.Len(0))
	}
	tells(t, b, 0, rows(row{"a", []byte{1}}, row{"b", nil}))
	diskHas(t, d, []api.Shape{shape}, rows(row{"a", []byte{1}}, row{"b", nil}))
}

// R4, P13.1 to P13.4: each call of nil.
func TestNil(t *testing.T) {
	unopened(t, api.ErrNil, nil, api.Shape{Rows: 1, Key: 1})
	var b *table.Base
	for _, i := range []int{math.MinInt, -1, 0, 1, 7, 8, math.MaxInt} {
		for _, key := range []string{"", "a", strings.Repeat("a", 1000)} {
			if got, err := b.Get(i, key); got != nil || err != api.ErrNil {
				t.Errorf("Get of nil: %x %d", got, err)
			}
			answers(t, "Put of nil", b.Put(i, key, nil), api.ErrNil)
			answers(t, "Put of nil", b.Put(i, key, make([]byte, 2000)), api.ErrNil)
			answers(t, "Del of nil", b.Del(i, key), api.ErrNil)
		}
		if b.Len(i) != 0 {
			t.Errorf("Len of nil: %d", b.Len(i))
		}
		all(t, b, i)
	}
	answers(t, "Commit of nil", b.Commit(), api.ErrNil)
	answers(t, "Abort of nil", b.Abort(), api.ErrNil)
	if b.Dirty() != 0 || len(b.State()) != 0 {
		t.Errorf("of nil: Dirty %d, State %x", b.Dirty(), b.State())
	}
}

// R3: what is handed in is neither changed nor kept, nor the room behind its end.
func TestHandedIn(t *testing.T) {
	first, second := api.Shape{Rows: 2, Key: 3, Value: 4}, api.Shape{Rows: 1, Key: 2}
	shapes := []api.Shape{first, second, {Rows: 64, Key: 64, Value: 1024}}
	d, l := logged(t, 64, nil)
	b := opened(t, l, shapes[:2]...)
	if shapes[0] != first || shapes[1] != second || shapes[2] != (api.Shape{Rows: 64, Key: 64, Value: 1024}) {
		t.Errorf("shapes are changed: %v", shapes)
	}
	for i := range shapes {
		shapes[i] = api.Shape{Rows: 64, Key: 64, Value: 1024}
	}
	answers(t, "Put of too long a key", b.Put(0, "abcd", nil), api.ErrLong)
	answers(t, "Put of too long a value", b.Put(1, "a", []byte{1}), api.ErrLong)

	room := []byte{9, 1, 2, 3, 4, 9, 9}
	value := room[1:4]
	answers(t, "Put", b.Put(0, "a", value), api.OK)
	answers(t, "Put", b.Put(0, "b", room[2:2]), api.OK)
	if !bytes.Equal(room, []byte{9, 1, 2, 3, 4, 9, 9}) {
		t.Errorf("a value is changed: %x", room)
	}
	clear(room)
	want := rows(row{"a", []byte{1, 2, 3}}, row{"b", nil})
	tells(t, b, 2, want, nil)
	commits(t, b)
	if !bytes.Equal(room, make([]byte, 7)) {
		t.Errorf("a value is changed by Commit: %x", room)
	}
	for i := range room {
		room[i] = 7
	}
	tells(t, b, 0, want, nil)
	diskHas(t, d, []api.Shape{first, second}, want, nil)
}

// spoil changes all that an answer has, and the room behind it.
func spoil(b []byte) {
	b = b[:cap(b)]
	for i := range b {
		b[i] ^= 0x5a
	}
}

// R3: what is answered may be changed, and grown, without the Base or another answer telling it.
func TestAnsweredMayBeChanged(t *testing.T) {
	shape := api.Shape{Rows: 3, Key: 3, Value: 100}
	list := rows(row{"a", text(1, 40)}, row{"b", nil}, row{"c", text(2, 3)})
	d, l := logged(t, 64, baseBytes(list[:1]), stepBytes(puts(0, "b")), stepBytes(puts(0, "c", list[2].value...)))
	b := opened(t, l, shape)
	spoiled := func(dirty int) {
		t.Helper()
		seq := b.All(0)
		for range 2 {
			for _, r := range list {
				got, err := b.Get(0, r.key)
				answers(t, "Get", err, api.OK)
				other, _ := b.Get(0, r.key)
				spoil(got)
				if !bytes.Equal(other, r.value) {
					t.Errorf("two answers of Get share memory: %x", other)
				}
			}
			k := 0
			for key, value := range seq {
				if key != list[k].key || !bytes.Equal(value, list[k].value) {
					t.Errorf("All: %q %x, not %q", key, value, list[k])
				}
				spoil(value)
				k++
			}
			other := b.State()
			spoil(b.State())
			if !bytes.Equal(other, baseBytes(list)) {
				t.Errorf("two answers of State share memory: %x", other)
			}
			tells(t, b, dirty, list)
		}
	}
	spoiled(0)
	list[2].value = text(3, 50)
	does(t, b, puts(0, "c", list[2].value...))
	spoiled(1)
	commits(t, b)
	spoiled(0)
	answers(t, "Abort", b.Abort(), api.OK)
	spoiled(0)
	diskHas(t, d, []api.Shape{shape}, list)
}
