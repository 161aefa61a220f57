package table_test

import (
	"bytes"
	"math"
	"slices"
	"strings"
	"testing"

	"hollowtree/api"
	"hollowtree/wal"
)

// small is a shape that may be.
var small = api.Shape{Rows: 2, Key: 3, Value: 4}

// times is a shape, so many times.
func times(n int, s api.Shape) []api.Shape { return slices.Repeat([]api.Shape{s}, n) }

// P13.1: so many shapes as may be, and others.
func TestOpenCounts(t *testing.T) {
	_, l := logged(t, 64, nil)
	for n := range 20 {
		if n < 1 || n > 8 {
			unopened(t, api.ErrArg, l, times(n, small)...)
			continue
		}
		tells(t, opened(t, l, times(n, small)...), 0, make([][]row, n)...)
	}
	unopened(t, api.ErrArg, l, []api.Shape{}...)
	unopened(t, api.ErrArg, l, times(256+1, small)...)
	unopened(t, api.ErrArg, l, times(1<<16+1, small)...)
}

// P13.1: shapes at, just below and just above their least and their greatest, alone, first, between and last.
func TestOpenShapes(t *testing.T) {
	_, l := logged(t, 64, nil)
	try := func(s api.Shape, may bool) {
		t.Helper()
		for _, ahead := range []int{0, 1, 7} {
			for behind := range 8 - ahead {
				shapes := slices.Concat(times(ahead, small), []api.Shape{s}, times(behind, small))
				if may {
					tells(t, opened(t, l, shapes...), 0, make([][]row, len(shapes))...)
				} else {
					unopened(t, api.ErrArg, l, shapes...)
				}
			}
		}
	}
	for _, x := range []struct {
		n                int
		rows, key, value bool
	}{
		{math.MinInt, false, false, false}, {math.MinInt32, false, false, false}, {-1, false, false, false},
		{0, false, false, true}, {1, true, true, true}, {2, true, true, true}, {63, true, true, true}, {64, true, true, true},
		{65, false, false, true}, {256, false, false, true}, {1023, false, false, true}, {1024, false, false, true},
		{1025, false, false, false}, {1 << 16, false, false, false}, {math.MaxInt, false, false, false},
	} {
		try(api.Shape{Rows: x.n, Key: 3, Value: 4}, x.rows)
		try(api.Shape{Rows: 2, Key: x.n, Value: 4}, x.key)
		try(api.Shape{Rows: 2, Key: 3, Value: x.n}, x.value)
	}
	try(api.Shape{Rows: 64, Key: 64, Value: 1024}, true)
	try(api.Shape{Rows: 1, Key: 1, Value: 0}, true)
	try(api.Shape{}, false)
}

// P13.1, R2: of several wrong things the one that the chapter names first.
func TestOpenErrorsInOrder(t *testing.T) {
	_, spoilt := logged(t, 64, []byte{1})
	_, good := logged(t, 64, nil)
	wrong := api.Shape{Rows: 0, Key: 1, Value: 1}
	for _, shapes := range [][]api.Shape{{}, {wrong}, times(9, small), times(9, wrong), {small}} {
		unopened(t, api.ErrNil, nil, shapes...)
	}
	for _, shapes := range [][]api.Shape{{}, {wrong}, {small, wrong}, times(9, small), times(9, wrong)} {
		unopened(t, api.ErrArg, spoilt, shapes...)
		unopened(t, api.ErrArg, good, shapes...)
	}
	unopened(t, api.ErrRows, spoilt, small)
}

// P13.1: what becomes of a snapshot, and of each beginning of it, and of it with bytes behind.
func TestOpenSnapshot(t *testing.T) {
	long := strings.Repeat("k", 64)
	for _, x := range []struct {
		shapes []api.Shape
		tables [][]row
	}{
		{times(1, small), [][]row{{}}},
		{times(1, small), [][]row{{{"a", []byte{1}}}}},
		{times(1, small), [][]row{{{"a", nil}, {"aa", []byte{1, 2, 3, 4}}}}},
		{times(1, small), [][]row{{{"\x00", nil}, {"\xff\xff\xff", []byte{0}}}}},
		{times(3, small), [][]row{{}, {{"abc", []byte{1}}}, {}}},
		{times(8, small), [][]row{{{"a", nil}}, {}, {}, {{"b", nil}, {"c", nil}}, {}, {}, {}, {{"d", []byte{9, 9, 9, 9}}}}},
		{[]api.Shape{{Rows: 1, Key: 1}, {Rows: 2, Key: 64, Value: 1024}}, [][]row{{{"z", nil}}, {{long[:63], text(1, 1023)}, {long, text(2, 1024)}}}},
	} {
		b := baseBytes(x.tables...)
		d, l := logged(t, 512, b)
		tells(t, opened(t, l, x.shapes...), 0, x.tables...)
		diskHas(t, d, x.shapes, x.tables...)
		logHas(t, l, b)
		for n := 1; n < len(b); n++ {
			_, l := logged(t, 512, b[:n])
			unopened(t, api.ErrRows, l, x.shapes...)
			if len(b) > 200 {
				n += 50
			}
		}
		_, short := logged(t, 512, b[:len(b)-1])
		unopened(t, api.ErrRows, short, x.shapes...)
		for _, more := range [][]byte{{0}, {1}, {0, 0}, {1, 0}, b} {
			_, l := logged(t, 512, slices.Concat(b, more))
			unopened(t, api.ErrRows, l, x.shapes...)
		}
		if n := len(x.shapes); n > 1 {
			unopened(t, api.ErrRows, l, x.shapes[:n-1]...)
		}
		if n := len(x.shapes); n < 8 {
			unopened(t, api.ErrRows, l, append(slices.Clip(x.shapes), small)...)
		}
	}
	_, l := logged(t, 64, []byte{})
	tells(t, opened(t, l, small, small), 0, nil, nil)
}

// P13.1: snapshots that are no base of the shapes, though their bytes are read to the end; each in the first and in the last table.
func TestOpenWrongSnapshot(t *testing.T) {
	for what, list := range map[string][]row{
		"equal keys":             {{"a", nil}, {"a", nil}},
		"equal keys, unlike":     {{"a", []byte{1}}, {"a", []byte{2}}},
		"falling keys":           {{"b", nil}, {"a", nil}},
		"a beginning behind":     {{"aa", nil}, {"a", nil}},
		"falling by high bytes":  {{"\x80", nil}, {"\x7f", nil}},
		"a key of no bytes":      {{"", nil}},
		"a key of none, first":   {{"", nil}, {"a", nil}},
		"a key of none, last":    {{"a", nil}, {"", nil}},
		"too long a key":         {{"abcd", nil}},
		"too long a second key":  {{"a", nil}, {"abcd", nil}},
		"a key far too long":     {{strings.Repeat("a", 300), nil}},
		"too long a value":       {{"a", []byte{1, 2, 3, 4, 5}}},
		"too long a last value":  {{"a", nil}, {"b", make([]byte, 5)}},
		"a value far too long":   {{"a", make([]byte, 300)}},
		"more rows than room":    {{"a", nil}, {"b", nil}, {"c", nil}},
		"many more than room":    {{"a", nil}, {"b", nil}, {"c", nil}, {"d", nil}, {"e", nil}, {"f", nil}},
		"more, by an equal key":  {{"a", nil}, {"b", nil}, {"b", nil}},
		"more, by a falling key": {{"a", nil}, {"b", nil}, {"a", nil}},
	} {
		for at := range 3 {
			tables := [][]row{{{"x", nil}}, {}, {{"y", []byte{1}}}}
			tables[at] = list
			_, l := logged(t, 64, baseBytes(tables...))
			unopened(t, api.ErrRows, l, times(3, small)...)
			tables[at] = nil
			_, l = logged(t, 64, baseBytes(tables...))
			opened(t, l, times(3, small)...)
			if t.Failed() {
				t.Fatalf("%s in table %d", what, at)
			}
		}
	}
	full := func(n int) []row {
		var list []row
		for k := range n {
			list = append(list, row{string(rune('!' + k)), nil})
		}
		return list
	}
	most := api.Shape{Rows: 64, Key: 64, Value: 1024}
	_, l := logged(t, 512, baseBytes(full(64)))
	tells(t, opened(t, l, most), 0, full(64))
	unopened(t, api.ErrRows, l, api.Shape{Rows: 63, Key: 64, Value: 1024})
	_, l = logged(t, 512, baseBytes(full(65)))
	unopened(t, api.ErrRows, l, most)
	_, l = logged(t, 512, baseBytes(rows(row{strings.Repeat("a", 65), nil})))
	unopened(t, api.ErrRows, l, most)
	_, l = logged(t, 512, baseBytes(rows(row{"a", make([]byte, 1025)})))
	unopened(t, api.ErrRows, l, most)
}

// P13.1: logs whose transactions are the bytes of changes: the rows behind them.
func TestOpenTransactions(t *testing.T) {
	snapshot := baseBytes(rows(row{"a", []byte{1}}), nil)
	shapes := times(2, small)
	for what, x := range map[string]struct {
		txs    [][]byte
		tables [][]row
	}{
		"none":                         {nil, [][]row{{{"a", []byte{1}}}, {}}},
		"no changes":                   {[][]byte{stepBytes()}, [][]row{{{"a", []byte{1}}}, {}}},
		"no changes, twice":            {[][]byte{{0, 0}, {0, 0}}, [][]row{{{"a", []byte{1}}}, {}}},
		"put":                          {[][]byte{stepBytes(puts(0, "b", 2))}, [][]row{{{"a", []byte{1}}, {"b", []byte{2}}}, {}}},
		"put over":                     {[][]byte{stepBytes(puts(0, "a", 7, 8, 9, 10))}, [][]row{{{"a", []byte{7, 8, 9, 10}}}, {}}},
		"put over by none":             {[][]byte{stepBytes(puts(0, "a"))}, [][]row{{{"a", nil}}, {}}},
		"gone":                         {[][]byte{stepBytes(dels(0, "a"))}, [][]row{{}, {}}},
		"in the last table":            {[][]byte{stepBytes(puts(1, "abc", 1))}, [][]row{{{"a", []byte{1}}}, {{"abc", []byte{1}}}}},
		"in order":                     {[][]byte{stepBytes(puts(1, "x", 1), dels(1, "x"), puts(1, "x", 2)), stepBytes(puts(1, "x", 3), puts(0, "x"))}, [][]row{{{"a", []byte{1}}, {"x", nil}}, {{"x", []byte{3}}}}},
		"room passed for a while":      {[][]byte{stepBytes(puts(0, "b"), puts(0, "c"), dels(0, "a"))}, [][]row{{{"b", nil}, {"c", nil}}, {}}},
		"room passed far, for a while": {[][]byte{stepBytes(puts(0, "b"), puts(0, "c"), puts(0, "d"), dels(0, "a"), dels(0, "b"), dels(0, "c"), puts(0, "e"))}, [][]row{{{"d", nil}, {"e", nil}}, {}}},
		"full, and put over":           {[][]byte{stepBytes(puts(0, "b")), stepBytes(puts(0, "b", 5), puts(0, "a", 6))}, [][]row{{{"a", []byte{6}}, {"b", []byte{5}}}, {}}},
	} {
		d, l := logged(t, 64, snapshot, x.txs...)
		tells(t, opened(t, l, shapes...), 0, x.tables...)
		diskHas(t, d, shapes, x.tables...)
		logHas(t, l, snapshot, x.txs...)
		if t.Failed() {
			t.Fatal(what)
		}
	}
	_, l := logged(t, 64, nil, stepBytes(puts(1, "b")), stepBytes(puts(0, "b", 1)))
	tells(t, opened(t, l, shapes...), 0, rows(row{"b", []byte{1}}), rows(row{"b", nil}))
}

// P13.1: logs with a transaction that is not the bytes of changes, or that can't be; also with good ones ahead of it and behind.
func TestOpenWrongTransaction(t *testing.T) {
	first := func(kind byte) []byte {
		tx := stepBytes(puts(0, "b", 2))
		tx[2] = kind
		return tx
	}
	counted := func(n int, tx []byte) []byte {
		tx = bytes.Clone(tx)
		tx[0], tx[1] = byte(n), byte(n>>8)
		return tx
	}
	wrong := map[string][]byte{
		"no bytes":                      {},
		"half a count":                  {0},
		"no changes, a byte more":       {0, 0, 0},
		"a byte less of put":            stepBytes(puts(0, "b", 2))[:9],
		"a byte more of put":            append(stepBytes(puts(0, "b", 2)), 0),
		"a byte less of gone":           stepBytes(dels(0, "a"))[:6],
		"a byte more of gone":           append(stepBytes(dels(0, "a")), 0),
		"gone with a value of none":     append(stepBytes(dels(0, "a")), 0, 0),
		"a change less than counted":    counted(2, stepBytes(puts(0, "b"))),
		"many less than counted":        counted(65535, stepBytes(puts(0, "b"))),
		"a change more than counted":    counted(1, stepBytes(puts(0, "b"), puts(0, "b"))),
		"counted as none":               counted(0, stepBytes(puts(0, "b"))),
		"begins with 2":                 first(2),
		"begins with 3":                 first(3),
		"begins with 255":               first(255),
		"put, begins with 0":            first(0),
		"gone, begins with 1":           append([]byte{1, 0, 1}, stepBytes(dels(0, "a"))[3:]...),
		"gone, begins with 2":           append([]byte{1, 0, 2}, stepBytes(dels(0, "a"))[3:]...),
		"put in table 2":                stepBytes(puts(2, "b", 2)),
		"put in table 8":                stepBytes(puts(8, "b", 2)),
		"put in table 255":              stepBytes(puts(255, "b", 2)),
		"gone in table 2":               stepBytes(dels(2, "a")),
		"gone in table 255":             stepBytes(dels(255, "a")),
		"gone in the other table":       stepBytes(dels(1, "a")),
		"gone, not there":               stepBytes(dels(0, "b")),
		"gone twice":                    stepBytes(dels(0, "a"), dels(0, "a")),
		"gone ahead of put":             stepBytes(dels(0, "b"), puts(0, "b")),
		"gone, of no bytes":             stepBytes(dels(0, "")),
		"gone, too long":                stepBytes(dels(0, "aaaa")),
		"put, of no bytes":              stepBytes(puts(0, "", 1)),
		"put, of no bytes, gone then":   stepBytes(puts(0, "", 1), dels(0, "")),
		"too long a key":                stepBytes(puts(0, "abcd", 1)),
		"too long a key, gone then":     stepBytes(puts(0, "abcd", 1), dels(0, "abcd")),
		"too long a value":              stepBytes(puts(0, "b", 1, 2, 3, 4, 5)),
		"too long a value, put over":    stepBytes(puts(0, "b", 1, 2, 3, 4, 5), puts(0, "b", 1)),
		"room passed":                   stepBytes(puts(0, "b"), puts(0, "c")),
		"room passed in the last table": stepBytes(puts(1, "a"), puts(1, "b"), puts(1, "c")),
		"room passed, one gone":         stepBytes(puts(0, "b"), puts(0, "c"), puts(0, "d"), dels(0, "d")),
	}
	snapshot := baseBytes(rows(row{"a", []byte{1}}), nil)
	good := [][]byte{stepBytes(puts(0, "x", 1)), stepBytes(dels(0, "x"))}
	back := stepBytes(puts(0, "a"), puts(0, "b"), puts(0, "c"), puts(0, "d"), dels(0, "b"), dels(0, "c"), dels(0, "d"))
	for what, tx := range wrong {
		for _, txs := range [][][]byte{{tx}, {good[0], good[1], tx}, {tx, back}, {tx, good[0], good[1], {0, 0}}} {
			_, l := logged(t, 64, snapshot, txs...)
			unopened(t, api.ErrRows, l, times(2, small)...)
			unopened(t, api.ErrRows, l, times(2, small)...)
		}
		if t.Failed() {
			t.Fatal(what)
		}
	}
	_, l := logged(t, 64, snapshot, back)
	tells(t, opened(t, l, times(2, small)...), 0, rows(row{"a", nil}), nil)
	_, l = logged(t, 64, snapshot, good...)
	unopened(t, api.ErrRows, l, small)
	_, l = logged(t, 64, snapshot, stepBytes(puts(0, "b"), puts(0, "c")), stepBytes(dels(0, "b")))
	unopened(t, api.ErrRows, l, times(2, small)...)
}

// P13.1: each beginning of the bytes of changes, and each with a byte more, is none.
func TestOpenCutTransaction(t *testing.T) {
	tx := stepBytes(puts(0, "ab", 1, 2), puts(1, "c"), dels(0, "ab"), puts(0, "x", 3, 4, 5, 6), dels(1, "c"))
	for n := range len(tx) {
		_, l := logged(t, 64, nil, tx[:n])
		unopened(t, api.ErrRows, l, times(2, small)...)
	}
	for b := range 256 {
		_, l := logged(t, 64, nil, append(slices.Clip(tx), byte(b)))
		unopened(t, api.ErrRows, l, times(2, small)...)
	}
	_, l := logged(t, 64, nil, tx)
	tells(t, opened(t, l, times(2, small)...), 0, rows(row{"x", []byte{3, 4, 5, 6}}), nil)
}

// byWords is the state of a log by the chapter's words, read by a list of rows; false: it is no base of the shapes.
func byWords(shapes []api.Shape, snapshot []byte, txs [][]byte) ([][]row, bool) {
	rest, short := snapshot, false
	take := func(n int) []byte {
		if n > len(rest) {
			rest, short = nil, true
			return make([]byte, n)
		}
		b := rest[:n]
		rest = rest[n:]
		return b
	}
	two := func() int {
		b := take(2)
		return int(b[0]) + 256*int(b[1])
	}
	may := func(table int, key, value []byte) bool {
		return len(key) > 0 && len(key) <= shapes[table].Key && len(value) <= shapes[table].Value
	}
	tables := make([][]row, len(shapes))
	for i := range tables {
		if len(snapshot) == 0 {
			break
		}
		for n := two(); n > 0 && !short; n-- {
			key := take(two())
			value := take(two())
			if last := len(tables[i]) - 1; short || !may(i, key, value) || last >= 0 && tables[i][last].key >= string(key) {
				return nil, false
			}
			tables[i] = append(tables[i], row{string(key), value})
		}
		if len(tables[i]) > shapes[i].Rows {
			return nil, false
		}
	}
	if short || len(rest) > 0 {
		return nil, false
	}
	for _, tx := range txs {
		rest = tx
		for n := two(); n > 0 && !short; n-- {
			kind, i, key := take(1)[0], int(take(1)[0]), take(two())
			if short || kind > 1 || i >= len(shapes) {
				return nil, false
			}
			had := len(tables[i])
			tables[i] = slices.DeleteFunc(tables[i], func(r row) bool { return r.key == string(key) })
			if kind == 0 {
				if len(tables[i]) == had {
					return nil, false
				}
				continue
			}
			value := take(two())
			if short || !may(i, key, value) {
				return nil, false
			}
			at := 0
			for at < len(tables[i]) && tables[i][at].key < string(key) {
				at++
			}
			tables[i] = slices.Insert(tables[i], at, row{string(key), value})
		}
		for i, list := range tables {
			if len(list) > shapes[i].Rows {
				return nil, false
			}
		}
		if short || len(rest) > 0 {
			return nil, false
		}
	}
	return tables, true
}

// reads holds what Open makes of a log against the chapter's words, and tells whether it is a base.
func reads(t *testing.T, shapes []api.Shape, l *wal.Log) bool {
	t.Helper()
	tables, right := byWords(shapes, l.Snapshot(), l.Txs())
	if right {
		tells(t, opened(t, l, shapes...), 0, tables...)
	} else {
		unopened(t, api.ErrRows, l, shapes...)
	}
	return right
}

// P13.1: logs of which one byte of the snapshot, or of the transactions, is any other one.
func TestOpenEachByte(t *testing.T) {
	shapes := []api.Shape{{Rows: 2, Key: 2, Value: 2}, {Rows: 1, Key: 3, Value: 1}}
	snapshot := baseBytes(rows(row{"a", []byte{1}}, row{"b", nil}), rows(row{"c", []byte{0}}))
	txs := [][]byte{
		stepBytes(dels(0, "a"), puts(0, "ab", 1, 2), puts(1, "c", 3)),
		stepBytes(puts(0, "a"), dels(0, "b")),
	}
	right := 0
	each := func(b []byte, open func()) {
		for at, was := range b {
			for x := range 256 {
				b[at] = byte(x)
				open()
				if t.Failed() {
					t.Fatalf("byte %d of %x", at, b)
				}
			}
			b[at] = was
		}
	}
	try := func() {
		_, l := logged(t, 64, snapshot, txs...)
		if reads(t, shapes, l) {
			right++
		}
	}
	each(snapshot, try)
	for _, tx := range txs {
		each(tx, try)
	}
	if right < 500 {
		t.Errorf("only %d of them are bases", right)
	}
}

// P13.1: Open writes nothing, whatever it answers, and needs no power.
func TestOpenWritesNothing(t *testing.T) {
	for _, tx := range [][]byte{stepBytes(puts(0, "a")), {9}} {
		d, l := logged(t, 64, baseBytes(nil), tx)
		before := d.Ops()
		must(t, "Arm", d.Arm(0), api.OK)
		for range 2 {
			reads(t, times(1, small), l)
		}
		if d.Ops() != before || d.Dead() || len(d.Pending()) != 0 {
			t.Errorf("Open writes: %d, not %d; %v", d.Ops(), before, d.Pending())
		}
		must(t, "Sync", d.Sync(), api.ErrDead)
		reads(t, times(1, small), l)
		logHas(t, l, baseBytes(nil), tx)
	}
}

// P13.1: a Base that another one's log is opened by, with shapes that are greater, and with others that are just great enough.
func TestOpenOtherShapes(t *testing.T) {
	_, l, b := fresh(t, 64, api.Shape{Rows: 5, Key: 10, Value: 20})
	does(t, b, puts(0, "abc", 1, 2), puts(0, "ab", 1), puts(0, "b", 1, 2, 3, 4))
	commits(t, b)
	want := rows(row{"ab", []byte{1}}, row{"abc", []byte{1, 2}}, row{"b", []byte{1, 2, 3, 4}})
	for _, s := range []api.Shape{{Rows: 3, Key: 3, Value: 4}, {Rows: 64, Key: 64, Value: 1024}} {
		tells(t, opened(t, l, s), 0, want)
	}
	for _, s := range []api.Shape{{Rows: 2, Key: 3, Value: 4}, {Rows: 3, Key: 2, Value: 4}, {Rows: 3, Key: 3, Value: 3}} {
		unopened(t, api.ErrRows, l, s)
	}
	tells(t, opened(t, l, api.Shape{Rows: 3, Key: 3, Value: 4}, small), 0, want, nil) // a log without a snapshot does not say how many tables there are
}
