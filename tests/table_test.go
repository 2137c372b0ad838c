package tests

import (
	"slices"
	"testing"

	"loop.example/queryoptimizer/impl"
)

// invalidTables returns tables that are not valid.
func invalidTables() []impl.Table {
	return []impl.Table{
		{},
		{Width: -1},
		{Width: 7},
		{Width: 0, Rows: [][]impl.Value{{}}},
		{Width: 7, Rows: rows("1 2 3 4 5 6 7")},
		{Width: 1, Rows: rows("2", "1")},
		{Width: 1, Rows: rows("1", "2", "1")},
		{Width: 1, Rows: rows("1", "null")},
		{Width: 2, Rows: rows("1 2", "1 1")},
		{Width: 2, Rows: rows("1")},
		{Width: 1, Rows: rows("1 2")},
		{Width: 2, Rows: rows("1 2", "3")},
		{Width: 1, Rows: rows("10000")},
		{Width: 1, Rows: rows("-10000", "1")},
		{Width: 1, Rows: [][]impl.Value{{{Null: true, N: 1}}}},
		{Width: 1, Rows: [][]impl.Value{nil}},
		{Width: 1, Rows: numbered(0, 401)},
	}
}

// countOf returns how often a row occurs in a list.
func countOf(list [][]impl.Value, r []impl.Value) int {
	n := 0
	for _, other := range list {
		if slices.Equal(other, r) {
			n++
		}
	}
	return n
}

// reversed returns rows in the opposite order.
func reversed(list [][]impl.Value) [][]impl.Value {
	result := slices.Clone(list)
	slices.Reverse(result)
	return result
}

// someTables returns tables of a width, with several equal rows.
func someTables(t *testing.T, width int) []impl.Table {
	t.Helper()
	m := &maker{state: uint64(width)}
	list := []impl.Table{{Width: width}}
	for _, count := range []int{1, 2, 5, 20, 60} {
		list = append(list, tableOf(t, width, m.rows(width, count)))
	}
	return list
}

func TestValidTable(t *testing.T) {
	for _, x := range []impl.Table{
		{Width: 1}, {Width: 6}, {Width: 1, Rows: [][]impl.Value{}},
		{Width: 1, Rows: rows("null", "null", "-1", "0", "0", "9999")},
		{Width: 2, Rows: rows("null 5", "1 null", "1 2", "1 2", "2 1")},
		{Width: 6, Rows: rows("1 2 3 4 5 6")},
		{Width: 1, Rows: numbered(0, 400)},
	} {
		if !impl.ValidTable(x) {
			t.Errorf("ValidTable(%v) is false", x)
		}
	}
	for _, x := range invalidTables() {
		if impl.ValidTable(x) {
			t.Errorf("ValidTable(%v) is true", x)
		}
	}
}

func TestP005TableOfSortsRows(t *testing.T) {
	want := impl.Table{Width: 2, Rows: rows("null null", "null 1", "-1 3", "2 null", "2 1", "2 1", "9999 0")}
	for i := range want.Rows {
		order := append(slices.Clone(want.Rows[i:]), want.Rows[:i]...)
		for _, list := range [][][]impl.Value{order, reversed(order)} {
			if got, ok := impl.TableOf(2, list); !ok || !equal(got, want) {
				t.Errorf("TableOf(2, %v) = %v, %v", list, got, ok)
			}
		}
	}
}

func TestP005ATableDoesNotDependOnTheOrderOfRows(t *testing.T) {
	m := &maker{state: 5}
	for width := 1; width <= impl.MaxWidth; width++ {
		for range 20 {
			list := m.rows(width, m.below(40))
			x := tableOf(t, width, list)
			if !impl.ValidTable(x) || x.Width != width || len(x.Rows) != len(list) {
				t.Fatalf("TableOf(%d, %v) = %v", width, list, x)
			}
			if !equal(tableOf(t, width, reversed(list)), x) || !equal(tableOf(t, width, x.Rows), x) {
				t.Fatalf("TableOf(%d, %v) depends on the order", width, list)
			}
			for _, r := range list {
				if countOf(list, r) != countOf(x.Rows, r) {
					t.Fatalf("TableOf(%d, %v) = %v", width, list, x)
				}
			}
		}
	}
}

func TestP005LimitsOfTableOf(t *testing.T) {
	if x, ok := impl.TableOf(1, reversed(numbered(0, 400))); !ok || !equal(x, impl.Table{Width: 1, Rows: numbered(0, 400)}) {
		t.Errorf("TableOf with 400 rows = %v, %v", x, ok)
	}
	for width := 1; width <= impl.MaxWidth; width++ {
		if x, ok := impl.TableOf(width, nil); !ok || !equal(x, impl.Table{Width: width}) {
			t.Errorf("TableOf(%d, nil) = %v, %v", width, x, ok)
		}
	}
	for _, c := range []struct {
		width int
		rows  [][]impl.Value
	}{
		{0, nil}, {-1, nil}, {7, nil}, {0, [][]impl.Value{{}}}, {7, rows("1 2 3 4 5 6 7")},
		{1, numbered(0, 401)}, {1, slices.Repeat(rows("1"), 401)},
		{1, rows("1", "10000")}, {1, rows("-10000")}, {1, [][]impl.Value{{{Null: true, N: 3}}}},
		{2, rows("1 2", "1")}, {2, rows("1 2 3")}, {1, [][]impl.Value{nil}},
	} {
		if x, ok := impl.TableOf(c.width, c.rows); ok || !equal(x, impl.Table{}) {
			t.Errorf("TableOf(%d, %v) = %v, %v", c.width, c.rows, x, ok)
		}
	}
}

func TestP006CountsAddUp(t *testing.T) {
	for width := 1; width <= impl.MaxWidth; width++ {
		for _, x := range someTables(t, width) {
			sum := 0
			for i, r := range x.Rows {
				n := impl.CountRow(x, r)
				if n < 1 || n != countOf(x.Rows, r) {
					t.Fatalf("CountRow(%v, %v) = %d", x, r, n)
				}
				if i == 0 || !slices.Equal(r, x.Rows[i-1]) {
					sum += n
				}
			}
			if sum != len(x.Rows) {
				t.Errorf("the counts of %v add up to %d", x, sum)
			}
		}
	}
}

func TestP006CountRow(t *testing.T) {
	x := table(t, 2, "null null", "null 1", "null 1", "1 2", "1 2", "1 2", "3 null")
	for s, want := range map[string]int{
		"null null": 1, "null 1": 2, "1 2": 3, "3 null": 1, "1 1": 0, "1 3": 0, "null 0": 0, "9999 9999": 0,
		"": 0, "1": 0, "1 2 3": 0, "1 10000": 0,
	} {
		if got := impl.CountRow(x, row(s)); got != want {
			t.Errorf("CountRow of %q = %d, want %d", s, got, want)
		}
	}
	if n := impl.CountRow(x, []impl.Value{null, {Null: true, N: 1}}); n != 0 {
		t.Errorf("CountRow of an invalid row = %d", n)
	}
	same := tableOf(t, 1, slices.Repeat(rows("7"), 400))
	if n := impl.CountRow(same, row("7")); n != 400 {
		t.Errorf("CountRow of 400 equal rows = %d", n)
	}
	if n := impl.CountRow(impl.Table{Width: 1}, row("7")); n != 0 {
		t.Errorf("CountRow of an empty table = %d", n)
	}
	for _, invalid := range invalidTables() {
		if n := impl.CountRow(invalid, row("1")); n != -1 {
			t.Errorf("CountRow(%v) = %d", invalid, n)
		}
	}
}

func TestP007UnionsAddCounts(t *testing.T) {
	for width := 1; width <= impl.MaxWidth; width++ {
		for _, a := range someTables(t, width) {
			for _, b := range someTables(t, width) {
				u, ok := impl.UnionAll(a, b)
				v, also := impl.UnionAll(b, a)
				if !ok || !also || !equal(u, v) || !impl.ValidTable(u) || len(u.Rows) != len(a.Rows)+len(b.Rows) {
					t.Fatalf("UnionAll(%v, %v) = %v, %v", a, b, u, ok)
				}
				for _, r := range append(slices.Clone(u.Rows), row("77 77 77 77 77 77")[:width]) {
					if impl.CountRow(u, r) != impl.CountRow(a, r)+impl.CountRow(b, r) {
						t.Fatalf("CountRow of %v in UnionAll(%v, %v)", r, a, b)
					}
				}
			}
		}
	}
}

func TestP007LimitsOfUnions(t *testing.T) {
	a := tableOf(t, 1, numbered(0, 200))
	b := tableOf(t, 1, numbered(100, 200))
	if u, ok := impl.UnionAll(a, b); !ok || len(u.Rows) != 400 || !impl.ValidTable(u) || impl.CountRow(u, row("150")) != 2 {
		t.Errorf("UnionAll of 200 and 200 rows = %v, %v", u, ok)
	}
	more := tableOf(t, 1, numbered(0, 201))
	if u, ok := impl.UnionAll(a, more); !ok || !equal(u, impl.Table{Width: 1}) {
		t.Errorf("UnionAll of 200 and 201 rows = %v, %v", u, ok)
	}
	most, one := tableOf(t, 1, numbered(0, impl.MaxRows)), table(t, 1, "7")
	for _, pair := range [][2]impl.Table{{most, one}, {one, most}, {more, a}} {
		if u, ok := impl.UnionAll(pair[0], pair[1]); !ok || !equal(u, impl.Table{Width: 1}) {
			t.Errorf("UnionAll of %d and %d rows = %v, %v", len(pair[0].Rows), len(pair[1].Rows), u, ok)
		}
	}
	none := impl.Table{Width: 1}
	for _, pair := range [][2]impl.Table{{most, none}, {none, most}} {
		if u, ok := impl.UnionAll(pair[0], pair[1]); !ok || !equal(u, most) {
			t.Errorf("UnionAll of %d and %d rows = %v, %v", len(pair[0].Rows), len(pair[1].Rows), u, ok)
		}
	}
	wide := table(t, 2, "1 2")
	for _, x := range append(invalidTables(), wide) {
		for _, pair := range [][2]impl.Table{{x, a}, {a, x}} {
			if u, ok := impl.UnionAll(pair[0], pair[1]); ok || !equal(u, impl.Table{}) {
				t.Errorf("UnionAll(%v, %v) = %v, %v", pair[0], pair[1], u, ok)
			}
		}
	}
}

func TestP008DistinctIsIdempotent(t *testing.T) {
	for width := 1; width <= impl.MaxWidth; width++ {
		for _, x := range someTables(t, width) {
			d, ok := impl.DistinctRows(x)
			if !ok || !impl.ValidTable(d) || d.Width != width {
				t.Fatalf("DistinctRows(%v) = %v, %v", x, d, ok)
			}
			for _, r := range append(slices.Clone(x.Rows), d.Rows...) {
				if countOf(d.Rows, r) != 1 || countOf(x.Rows, r) < 1 {
					t.Fatalf("DistinctRows(%v) = %v", x, d)
				}
			}
			if again, ok := impl.DistinctRows(d); !ok || !equal(again, d) {
				t.Fatalf("DistinctRows(%v) = %v, %v", d, again, ok)
			}
		}
	}
	x := table(t, 2, "1 2", "null 1", "1 2", "null null", "null null", "null 1", "1 3", "1 2")
	if d, ok := impl.DistinctRows(x); !ok || !equal(d.Rows, rows("null null", "null 1", "1 2", "1 3")) {
		t.Errorf("DistinctRows(%v) = %v, %v", x, d, ok)
	}
	for _, x := range invalidTables() {
		if d, ok := impl.DistinctRows(x); ok || !equal(d, impl.Table{}) {
			t.Errorf("DistinctRows(%v) = %v, %v", x, d, ok)
		}
	}
}
