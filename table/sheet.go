package table

import (
	"bytes"
	"iter"
	"maps"
	"slices"

	"hollowtree/api"
)

// The most that a base and a shape can have.
const (
	maxTables = 8
	maxRows   = 64
	maxKey    = 64
	maxValue  = 1024
)

// mayNotBe tells whether there can be no table of a shape.
func mayNotBe(s api.Shape) bool {
	return !from(1, s.Rows, maxRows) || !from(1, s.Key, maxKey) || !from(0, s.Value, maxValue)
}

func from(least, n, most int) bool { return least <= n && n <= most }

// sheet is a table: its shape, and its rows by their keys. A value in it is replaced and never changed, as copies of a sheet, and changes, share it.
type sheet struct {
	shape api.Shape
	rows  map[string][]byte
}

// has tells whether a row is there.
func (s sheet) has(key string) bool {
	_, there := s.rows[key]
	return there
}

// takes tells whether the shape lets a row be, whatever room there is.
func (s sheet) takes(key string, value []byte) bool {
	return from(1, len(key), s.shape.Key) && len(value) <= s.shape.Value
}

// over tells whether there are more rows than there is room for.
func (s sheet) over() bool { return len(s.rows) > s.shape.Rows }

func (s sheet) clone() sheet { return sheet{s.shape, maps.Clone(s.rows)} }

// all tells the rows by rising keys, each time with new values.
func (s sheet) all() iter.Seq2[string, []byte] {
	return func(yield func(string, []byte) bool) {
		for _, key := range slices.Sorted(maps.Keys(s.rows)) {
			if !yield(key, bytes.Clone(s.rows[key])) {
				return
			}
		}
	}
}

// tables are those of a base, in order.
type tables []sheet

// have tells whether there is a table of that number.
func (ts tables) have(table int) bool { return from(0, table, len(ts)-1) }

// fit tells whether there is room for the rows of each.
func (ts tables) fit() bool { return !slices.ContainsFunc(ts, sheet.over) }

func (ts tables) clone() tables {
	out := slices.Clone(ts)
	for i, s := range ts {
		out[i] = s.clone()
	}
	return out
}

// carry carries out a change, and tells whether it can be. Room is not asked for here: within a transaction it may be passed for a while.
func (ts tables) carry(c change) bool {
	if !ts.have(c.table) {
		return false
	}
	s := ts[c.table]
	if c.kind == put {
		if !s.takes(c.key, c.value) {
			return false
		}
		s.rows[c.key] = c.value
		return true
	}
	if !s.has(c.key) {
		return false
	}
	delete(s.rows, c.key)
	return true
}
