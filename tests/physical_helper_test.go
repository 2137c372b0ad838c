package tests

import (
	"math"
	"slices"
	"strconv"
	"testing"

	"loop.example/queryoptimizer/impl"
)

// wrongSizes returns numbers that are no numbers of buckets.
func wrongSizes() []int {
	return []int{0, -1, -1000, impl.MaxSize + 1, math.MaxInt, math.MinInt}
}

// nulls returns rows of nulls.
func nulls(width int, count int) [][]impl.Value {
	var list [][]impl.Value
	for range count {
		list = append(list, slices.Repeat([]impl.Value{null}, width))
	}
	return list
}

// numbers returns rows of small numbers and ones at a limit, many of which are equal.
func (m *maker) numbers(width int, count int) [][]impl.Value {
	list := m.rows(width, count)
	for i, r := range list {
		list[i] = slices.Clone(r)
		for k, v := range r {
			if v.Null {
				list[i][k] = num(m.below(4) - 1)
			}
		}
	}
	return list
}

// joinTables returns tables of a width: without rows, of nulls alone, with nulls, and without nulls.
func joinTables(t *testing.T, width int) []impl.Table {
	t.Helper()
	m := &maker{state: uint64(1900 + width)}
	list := append(someTables(t, width)[:5], tableOf(t, width, nulls(width, 3)))
	for _, count := range []int{1, 6, 25} {
		list = append(list, tableOf(t, width, m.numbers(width, count)))
	}
	var limits [][]impl.Value
	for _, n := range []int{-9999, 0, 9999, 9999} {
		limits = append(limits, slices.Repeat([]impl.Value{num(n)}, width))
	}
	return append(list, tableOf(t, width, append(limits, nulls(width, 1)...)))
}

// endsOf returns the first and the last column of a width.
func endsOf(width int) []int {
	return slices.Compact([]int{0, width - 1})
}

// joinCase has two tables and the columns by which they are joined.
type joinCase struct {
	a, b   impl.Table
	ca, cb int
}

// String describes the case in messages.
func (c joinCase) String() string {
	return "the column " + strconv.Itoa(c.ca) + " of " + shown(c.a) + " and the column " + strconv.Itoa(c.cb) + " of " + shown(c.b)
}

// shown returns the rows of a table, each followed by a semicolon.
func shown(x impl.Table) string {
	s := "[" + strconv.Itoa(x.Width) + ":"
	for _, r := range x.Rows {
		for _, v := range r {
			s += " " + impl.EncodeValue(v)
		}
		s += ";"
	}
	return s + "]"
}

// exchanged returns the case with exchanged tables and columns.
func (c joinCase) exchanged() joinCase {
	return joinCase{c.b, c.a, c.cb, c.ca}
}

// joinCases returns cases with tables of all widths that together are at most MaxWidth, and all columns.
func joinCases(t *testing.T) []joinCase {
	t.Helper()
	var list []joinCase
	for first := 1; first < impl.MaxWidth; first++ {
		for second := 1; first+second <= impl.MaxWidth; second++ {
			for _, a := range joinTables(t, first) {
				for _, b := range joinTables(t, second) {
					for ca := range first {
						for cb := range second {
							list = append(list, joinCase{a, b, ca, cb})
						}
					}
				}
			}
		}
	}
	return list
}

// matchCases returns cases with tables of all widths, and the first and last columns.
func matchCases(t *testing.T) []joinCase {
	t.Helper()
	var list []joinCase
	for first := 1; first <= impl.MaxWidth; first++ {
		for second := 1; second <= impl.MaxWidth; second++ {
			for _, a := range joinTables(t, first) {
				for _, b := range joinTables(t, second) {
					for _, ca := range endsOf(first) {
						for _, cb := range endsOf(second) {
							list = append(list, joinCase{a, b, ca, cb})
						}
					}
				}
			}
		}
	}
	return list
}

// wrongMatches returns cases in which a table is invalid or has no such column.
func wrongMatches(t *testing.T) []joinCase {
	t.Helper()
	var list []joinCase
	for width := 1; width <= 3; width++ {
		for _, x := range joinTables(t, width)[:3] {
			for _, c := range wrongColumns(width) {
				list = append(list, joinCase{x, x, c, 0}, joinCase{x, x, width - 1, c}, joinCase{x, x, c, c})
			}
			for _, bad := range invalidTables() {
				list = append(list, joinCase{x, bad, 0, 0}, joinCase{bad, x, 0, 0}, joinCase{bad, bad, 0, 0})
			}
		}
	}
	return list
}

// slowJoin returns a row of the first table followed by a row of the second one for any two that have the same number.
func slowJoin(c joinCase) [][]impl.Value {
	var list [][]impl.Value
	for _, r := range c.a.Rows {
		for _, s := range c.b.Rows {
			if !r[c.ca].Null && !s[c.cb].Null && r[c.ca].N == s[c.cb].N {
				list = append(list, slices.Concat(r, s))
			}
		}
	}
	return list
}

// hashJoined returns HashJoin, and fails if there is no valid result.
func hashJoined(t *testing.T, c joinCase, buckets int) impl.Table {
	t.Helper()
	x, ok := impl.HashJoin(c.a, c.b, c.ca, c.cb, buckets)
	if !ok || !impl.ValidTable(x) || x.Width != c.a.Width+c.b.Width {
		t.Fatalf("HashJoin of %v with %d buckets = %v, %v", c, buckets, x, ok)
	}
	return x
}

// mergeJoined returns MergeJoin, and fails if there is no valid result.
func mergeJoined(t *testing.T, c joinCase) impl.Table {
	t.Helper()
	x, ok := impl.MergeJoin(c.a, c.b, c.ca, c.cb)
	if !ok || !impl.ValidTable(x) || x.Width != c.a.Width+c.b.Width {
		t.Fatalf("MergeJoin of %v = %v, %v", c, x, ok)
	}
	return x
}

// matching is SemiJoin, AntiJoin or NotIn.
type matching func(a impl.Table, b impl.Table, ca int, cb int) (impl.Table, bool)

// matched returns the result of a function for a case, and fails if there is no valid one.
func matched(t *testing.T, f matching, c joinCase) impl.Table {
	t.Helper()
	x, ok := f(c.a, c.b, c.ca, c.cb)
	if !ok || !impl.ValidTable(x) || x.Width != c.a.Width {
		t.Fatalf("%v have the result %v, %v", c, x, ok)
	}
	return x
}

// unionOf returns UnionAll, and fails if there is no result.
func unionOf(t *testing.T, a impl.Table, b impl.Table) impl.Table {
	t.Helper()
	x, ok := impl.UnionAll(a, b)
	if !ok {
		t.Fatalf("UnionAll(%v, %v) fails", a, b)
	}
	return x
}

// columnOf returns the values of a table in a column.
func columnOf(x impl.Table, c int) []impl.Value {
	var values []impl.Value
	for _, r := range x.Rows {
		values = append(values, r[c])
	}
	return values
}

// blocks returns count rows for each number from 0 on that is less than numbers; the other columns count the rows from 0 on.
func blocks(t *testing.T, width int, numbers int, count int) impl.Table {
	t.Helper()
	var list [][]impl.Value
	for n := range numbers {
		for range count {
			r := slices.Repeat([]impl.Value{num(len(list))}, width)
			r[0] = num(n)
			list = append(list, r)
		}
	}
	return tableOf(t, width, list)
}
