package table_test

import (
	"bytes"
	"math"
	"math/rand"
	"strings"
	"testing"

	"hollowtree/api"
	"hollowtree/table"
)

// asked asks for a change, and answers what is answered.
func asked(b *table.Base, s step) api.Errno {
	if s.put {
		return b.Put(s.table, s.key, s.value)
	}
	return b.Del(s.table, s.key)
}

// refused lets a change be asked for that must be refused, and change nothing of what the Base tells.
func refused(t *testing.T, b *table.Base, want api.Errno, s step) {
	t.Helper()
	dirty, state := b.Dirty(), b.State()
	if err := asked(b, s); err != want {
		t.Errorf("%v: %d, not %d", s, err, want)
	}
	if b.Dirty() != dirty || !bytes.Equal(b.State(), state) {
		t.Errorf("%v is refused, and changes something: Dirty %d, not %d; State %x, not %x", s, b.Dirty(), dirty, b.State(), state)
	}
}

// done lets a change be done, and counts it.
func done(t *testing.T, b *table.Base, s step) {
	t.Helper()
	dirty := b.Dirty()
	does(t, b, s)
	if b.Dirty() != dirty+1 {
		t.Errorf("%v: Dirty %d, not %d", s, b.Dirty(), dirty+1)
	}
}

// P13.2, P13.3: tables that there are not, and the last one, of bases of 1 to 8 tables.
func TestTables(t *testing.T) {
	for n := 1; n <= 8; n++ {
		_, _, b := fresh(t, 64, times(n, small)...)
		tables := make([][]row, n)
		for i := range n {
			done(t, b, puts(i, "k", byte(i)))
			tables[i] = rows(row{"k", []byte{byte(i)}})
			tells(t, b, i+1, tables...)
		}
		for _, i := range []int{math.MinInt, math.MinInt + 1, -256, -8, -1, n, n + 1, 8, 256, 1 << 32, math.MaxInt - 1, math.MaxInt} {
			for _, key := range []string{"k", "", "abcd"} {
				refused(t, b, api.ErrArg, puts(i, key, 1))
				refused(t, b, api.ErrArg, puts(i, key, 1, 2, 3, 4, 5))
				refused(t, b, api.ErrArg, dels(i, key))
				if got, err := b.Get(i, key); got != nil || err != api.ErrArg {
					t.Errorf("Get(%d, %q): %x %d", i, key, got, err)
				}
			}
			if b.Len(i) != 0 {
				t.Errorf("Len(%d): %d", i, b.Len(i))
			}
			all(t, b, i)
		}
		done(t, b, dels(n-1, "k"))
		tables[n-1] = nil
		tells(t, b, n+1, tables...)
	}
}

// P13.3: keys and values of just as many bytes as there may be, and one more; of no bytes.
func TestPutLengths(t *testing.T) {
	for _, s := range []api.Shape{{Rows: 9, Key: 1, Value: 0}, {Rows: 9, Key: 1, Value: 1}, {Rows: 9, Key: 3, Value: 4}, {Rows: 9, Key: 63, Value: 1023}, {Rows: 9, Key: 64, Value: 1024}} {
		_, _, b := fresh(t, 64, s)
		key, value := strings.Repeat("k", s.Key), text(1, s.Value)
		longKey, longValue := key+"k", append(bytes.Clone(value), 0)
		for _, v := range [][]byte{nil, {}, value, longValue, make([]byte, 5000)} {
			refused(t, b, api.ErrArg, puts(0, "", v...))
			refused(t, b, api.ErrLong, puts(0, longKey, v...))
			refused(t, b, api.ErrLong, puts(0, strings.Repeat("k", 256+s.Key), v...))
			refused(t, b, api.ErrLong, puts(0, strings.Repeat("k", 1<<16+s.Key), v...))
		}
		refused(t, b, api.ErrLong, puts(0, key, longValue...))
		refused(t, b, api.ErrLong, puts(0, "k", make([]byte, 1<<16+s.Value)...))
		refused(t, b, api.ErrLong, puts(0, "k", make([]byte, 1<<16)...))
		tells(t, b, 0, nil)
		done(t, b, puts(0, key, value...))
		tells(t, b, 1, rows(row{key, value}))
		refused(t, b, api.ErrLong, puts(0, key, longValue...))
		done(t, b, puts(0, key))
		tells(t, b, 2, rows(row{key, nil}))
		for _, k := range []string{"", longKey, key[:s.Key-1], "x"} {
			refused(t, b, api.ErrNone, dels(0, k))
		}
		done(t, b, dels(0, key))
		tells(t, b, 3, nil)
	}
}

// P13.3, R2: of several errors the one that the chapter names first.
func TestPutErrorsInOrder(t *testing.T) {
	_, _, b := fresh(t, 64, small)
	does(t, b, puts(0, "a"), puts(0, "b"))
	long := make([]byte, 5)
	refused(t, b, api.ErrArg, puts(1, "", long...))
	refused(t, b, api.ErrArg, puts(-1, "abcd", long...))
	refused(t, b, api.ErrArg, puts(0, "", long...))
	refused(t, b, api.ErrArg, puts(0, ""))
	refused(t, b, api.ErrLong, puts(0, "abcd", long...))
	refused(t, b, api.ErrLong, puts(0, "abcd"))
	refused(t, b, api.ErrLong, puts(0, "c", long...))
	refused(t, b, api.ErrLong, puts(0, "a", long...))
	refused(t, b, api.ErrFull, puts(0, "c"))
	refused(t, b, api.ErrArg, dels(1, "a"))
	refused(t, b, api.ErrNone, dels(0, ""))
	refused(t, b, api.ErrNone, dels(0, "abcd"))
}

// P13.3: a table that is full: a row that is there is put, a new one is not, until one goes; other tables have their own room.
func TestPutFull(t *testing.T) {
	for _, n := range []int{1, 2, 63, 64} {
		s := api.Shape{Rows: n, Key: 1, Value: 1}
		_, _, b := fresh(t, 512, s, s)
		var list []row
		for k := range n {
			done(t, b, puts(0, string([]byte{byte(k)}), byte(k)))
			list = append(list, row{string([]byte{byte(k)}), []byte{byte(k)}})
		}
		tells(t, b, n, list, nil)
		for _, key := range []string{"\xf0", "\xff", string([]byte{byte(n)})} {
			refused(t, b, api.ErrFull, puts(0, key))
		}
		last := &list[n-1]
		last.value = []byte{0xee}
		done(t, b, puts(0, last.key, last.value...))
		tells(t, b, n+1, list, nil)
		refused(t, b, api.ErrFull, puts(0, "\xf0"))
		done(t, b, puts(1, "\xf0", 5))
		tells(t, b, n+2, list, rows(row{"\xf0", []byte{5}}))
		commits(t, b)
		refused(t, b, api.ErrFull, puts(0, "\xf0"))
		done(t, b, dels(0, last.key))
		list[n-1] = row{"\xf0", []byte{1}}
		done(t, b, puts(0, "\xf0", 1))
		refused(t, b, api.ErrFull, puts(0, "\xf1", 1))
		tells(t, b, 2, list, rows(row{"\xf0", []byte{5}}))
	}
}

// P13.3, P13.4: a row is put, deleted and put again within one commit: three changes, all of them in the transaction.
func TestPutDeletedPut(t *testing.T) {
	d, l, b := fresh(t, 64, small)
	done(t, b, puts(0, "a", 1))
	refused(t, b, api.ErrNone, dels(0, "b"))
	done(t, b, dels(0, "a"))
	refused(t, b, api.ErrNone, dels(0, "a"))
	tells(t, b, 2, nil)
	done(t, b, puts(0, "a", 2, 3))
	done(t, b, puts(0, "a", 2, 3))
	tells(t, b, 4, rows(row{"a", []byte{2, 3}}))
	commits(t, b)
	tells(t, b, 0, rows(row{"a", []byte{2, 3}}))
	first := stepBytes(puts(0, "a", 1), dels(0, "a"), puts(0, "a", 2, 3), puts(0, "a", 2, 3))
	logHas(t, l, nil, first)
	done(t, b, dels(0, "a"))
	done(t, b, puts(0, "a", 4))
	done(t, b, dels(0, "a"))
	commits(t, b)
	tells(t, b, 0, nil)
	logHas(t, l, nil, first, stepBytes(dels(0, "a"), puts(0, "a", 4), dels(0, "a")))
	diskHas(t, d, times(1, small), nil)
}

// P13.3: 65535 changes, and one more, which is refused whatever it is; the errors that the chapter names ahead of that stay ahead of it; behind Abort, and behind Commit, as many can be done again.
func TestManyChanges(t *testing.T) {
	d, l, b := fresh(t, 64, small, small)
	does(t, b, puts(0, "a", 7), puts(0, "b"))
	commits(t, b)
	was, before := rows(row{"a", []byte{7}}, row{"b", nil}), stepBytes(puts(0, "a", 7), puts(0, "b"))

	many := func(change func(k int) step) {
		t.Helper()
		for k := range 65535 {
			if err := asked(b, change(k)); err != api.OK || b.Dirty() != k+1 {
				t.Fatalf("change %d: %d, Dirty %d", k, err, b.Dirty())
			}
		}
		refused(t, b, api.ErrFull, puts(0, "b", 1))
		refused(t, b, api.ErrFull, puts(0, "b"))
		refused(t, b, api.ErrFull, puts(1, "x"))
		refused(t, b, api.ErrFull, dels(0, "b"))
		refused(t, b, api.ErrArg, puts(2, "a"))
		refused(t, b, api.ErrArg, puts(0, ""))
		refused(t, b, api.ErrLong, puts(0, "abcd"))
		refused(t, b, api.ErrLong, puts(0, "b", 1, 2, 3, 4, 5))
		refused(t, b, api.ErrArg, dels(2, "a"))
		refused(t, b, api.ErrNone, dels(0, "x"))
	}
	last := rows(row{"a", []byte{0xfe, 0xff}}, row{"b", nil})
	overwrite := func(k int) step { return puts(0, "a", byte(k), byte(k>>8)) }
	many(overwrite)
	tells(t, b, 65535, last, nil)
	answers(t, "Abort", b.Abort(), api.OK)
	tells(t, b, 0, was, nil)
	logHas(t, l, nil, before)

	many(func(k int) step {
		if k%2 == 0 {
			return dels(0, "a")
		}
		return overwrite(k)
	})
	tells(t, b, 65535, last[1:], nil)
	commits(t, b)
	tells(t, b, 0, last[1:], nil)
	logHas(t, l, baseBytes(last[1:], nil)) // so many changes are more than a log holds
	diskHas(t, d, times(2, small), last[1:], nil)

	many(overwrite)
	commits(t, b)
	diskHas(t, d, times(2, small), last, nil)
}

// P13.2: rows by rising keys, bytes from 0 to 255, beginnings ahead of what they begin, whatever order they came in.
func TestAllRising(t *testing.T) {
	shape := api.Shape{Rows: 64, Key: 8, Value: 2}
	keys := []string{"\x00", "\x00\x00", "\x00\x01", "\x01", "A", "AA", "AAA", "AB", "B", "Z", "a", "a\x00", "a\x00b", "aa", "ab", "abcdefgh", "b", "z", "\x7f", "\x7f\xff", "\x80", "\xc3\xa4", "\xe4", "\xfe\xff", "\xff", "\xff\x00", "\xff\xff"}
	r := rand.New(rand.NewSource(41))
	for range 20 {
		_, _, b := fresh(t, 64, shape, shape)
		want := make([]row, len(keys))
		for k, at := range r.Perm(len(keys)) {
			want[at] = row{keys[at], []byte{byte(at), byte(k)}}
			done(t, b, puts(1, keys[at], want[at].value...))
		}
		tells(t, b, len(keys), nil, want)
		commits(t, b)
		tells(t, b, 0, nil, want)
	}
	for first := 0; first < 256; first += 64 {
		_, _, b := fresh(t, 512, shape)
		want := make([]row, 64)
		for k := range want {
			at := 63 - k*5%64
			want[at] = row{string([]byte{byte(first + at)}), []byte{byte(k)}}
			done(t, b, puts(0, want[at].key, want[at].value...))
		}
		tells(t, b, 64, want)
	}
}

// P13.2, R6: All is told several times, left early, and gone through within itself.
func TestAllLeftEarly(t *testing.T) {
	_, _, b := fresh(t, 64, api.Shape{Rows: 5, Key: 1, Value: 1})
	var want []row
	for k := range 5 {
		r := row{string(rune('a' + k)), []byte{byte(k)}}
		want = append(want, r)
		does(t, b, puts(0, r.key, r.value...))
	}
	seq := b.All(0)
	for stop := range 7 {
		var got []row
		for key, value := range seq {
			if len(got) == stop {
				break
			}
			got = append(got, row{key, value})
		}
		if !alike(got, want[:min(stop, 5)]) {
			t.Errorf("left behind %d: %q", stop, got)
		}
		calls := 0
		seq(func(string, []byte) bool {
			calls++
			return calls < stop
		})
		if calls != min(max(stop, 1), 5) {
			t.Errorf("told no more behind %d: %d", stop, calls)
		}
	}
	var pairs strings.Builder
	for one := range seq {
		for other := range seq {
			pairs.WriteString(one + other)
		}
	}
	if pairs.Len() != 50 || !strings.HasPrefix(pairs.String(), "aaabacadaebabb") {
		t.Errorf("one within the other: %s", pairs.String())
	}
	tells(t, b, 5, want)
}

// P13.2, R1: what is put and what goes while All is gone through does not change what this All tells; the next one tells it.
func TestAllWhileChanging(t *testing.T) {
	_, _, b := fresh(t, 64, api.Shape{Rows: 4, Key: 1, Value: 1})
	does(t, b, puts(0, "b", 1), puts(0, "d", 2))
	was := rows(row{"b", []byte{1}}, row{"d", []byte{2}})
	seq := b.All(0)
	for range 2 {
		var got []row
		for key, value := range seq {
			got = append(got, row{key, value})
			does(t, b, puts(0, "a", 3), puts(0, "e", 4), puts(0, "d", 9), puts(0, "b", 9), dels(0, "b"), dels(0, "d"))
			commits(t, b)
			does(t, b, puts(0, "d", 8), puts(0, "b", 8))
			if key == "d" {
				answers(t, "Abort", b.Abort(), api.OK)
			}
		}
		if !alike(got, was) {
			t.Errorf("All while rows change: %q", got)
		}
	}
	tells(t, b, 0, rows(row{"a", []byte{3}}, row{"e", []byte{4}}))
}
