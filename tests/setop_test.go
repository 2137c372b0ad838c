package tests

import (
	"slices"
	"testing"

	"loop.example/queryoptimizer/impl"
)

func TestSetOperations(t *testing.T) {
	wide := table(t, 6, "1 2 3 4 5 6", "1 2 3 4 5 7", "1 2 3 4 5 7")
	most := tableOf(t, 1, numbered(0, impl.MaxRows))
	same := tableOf(t, 1, slices.Repeat(rows("7"), impl.MaxRows))
	for _, c := range []struct {
		name         string
		a, b         impl.Table
		both, except []string
		subtable     bool
	}{
		{"more in the first table", table(t, 1, "1", "1", "1", "2"), table(t, 1, "1", "3"), []string{"1"}, []string{"1", "1", "2"}, false},
		{"more in the second table", table(t, 1, "1", "2"), table(t, 1, "1", "1", "1", "3"), []string{"1"}, []string{"2"}, false},
		{"as many in both", table(t, 1, "1", "1"), table(t, 1, "0", "1", "1", "9"), []string{"1", "1"}, nil, true},
		{"fewer of each row", table(t, 1, "1", "1", "2"), table(t, 1, "1", "1", "1", "2", "2"), []string{"1", "1", "2"}, nil, true},
		{"one row is missing at the beginning", table(t, 1, "0", "1"), table(t, 1, "1", "1"), []string{"1"}, []string{"0"}, false},
		{"one row is missing at the end", table(t, 1, "1", "2"), table(t, 1, "1", "1"), []string{"1"}, []string{"2"}, false},
		{"no common rows", table(t, 1, "1", "3", "5"), table(t, 1, "0", "2", "4", "6"), nil, []string{"1", "3", "5"}, false},
		{"all rows of one are smaller", table(t, 1, "1", "3"), table(t, 1, "4", "5"), nil, []string{"1", "3"}, false},
		{"all rows of one are larger", table(t, 1, "4", "5"), table(t, 1, "1", "3"), nil, []string{"4", "5"}, false},
		{"nulls are equal", table(t, 2, "null null", "null null", "null 1", "1 null"), table(t, 2, "null null", "null 2", "1 null", "1 null"), []string{"null null", "1 null"}, []string{"null null", "null 1"}, false},
		{"null is not 0", table(t, 1, "null", "0"), table(t, 1, "0", "0"), []string{"0"}, []string{"null"}, false},
		{"limits", table(t, 1, "-9999", "9999"), table(t, 1, "null", "-9999", "9998", "9999", "9999"), []string{"-9999", "9999"}, nil, true},
		{"MaxWidth columns", wide, table(t, 6, "1 2 3 4 5 7", "2 2 3 4 5 6"), []string{"1 2 3 4 5 7"}, []string{"1 2 3 4 5 6", "1 2 3 4 5 7"}, false},
		{"no rows in the first table", impl.Table{Width: 2}, table(t, 2, "1 2"), nil, nil, true},
		{"no rows in the second table", table(t, 2, "1 2", "1 2"), impl.Table{Width: 2}, nil, []string{"1 2", "1 2"}, false},
		{"no rows in both", impl.Table{Width: 6}, impl.Table{Width: 6}, nil, nil, true},
	} {
		checkSetOperations(t, c.name, c.a, c.b, rows(c.both...), rows(c.except...), c.subtable)
	}
	checkSetOperations(t, "MaxRows rows and themselves", most, most, most.Rows, nil, true)
	checkSetOperations(t, "MaxRows equal rows and themselves", same, same, same.Rows, nil, true)
	checkSetOperations(t, "MaxRows equal rows and one less", same, tableOf(t, 1, same.Rows[1:]), same.Rows[1:], same.Rows[:1], false)
	checkSetOperations(t, "MaxRows rows and others", most, tableOf(t, 1, numbered(impl.MaxRows, impl.MaxRows)), nil, most.Rows, false)
	checkSetOperations(t, "MaxRows rows and no rows", most, impl.Table{Width: 1}, nil, most.Rows, false)
}

// checkSetOperations checks the set operations of two tables.
func checkSetOperations(t *testing.T, name string, a impl.Table, b impl.Table, both [][]impl.Value, except [][]impl.Value, subtable bool) {
	t.Helper()
	if got, ok := impl.IntersectAll(a, b); !ok || !equal(got, impl.Table{Width: a.Width, Rows: both}) {
		t.Errorf("%s: IntersectAll = %v, %v, want the rows %v", name, shown(got), ok, both)
	}
	if got, ok := impl.ExceptAll(a, b); !ok || !equal(got, impl.Table{Width: a.Width, Rows: except}) {
		t.Errorf("%s: ExceptAll = %v, %v, want the rows %v", name, shown(got), ok, except)
	}
	if got := impl.IsSubtable(a, b); got != subtable {
		t.Errorf("%s: IsSubtable is %v", name, got)
	}
}

func TestSetOperationsOfInvalidArguments(t *testing.T) {
	var list [][2]impl.Table
	for width := 1; width <= impl.MaxWidth; width++ {
		for _, x := range someTables(t, width)[:3] {
			for _, bad := range invalidTables() {
				list = append(list, [2]impl.Table{x, bad}, [2]impl.Table{bad, x}, [2]impl.Table{bad, bad})
			}
			for other := 1; other <= impl.MaxWidth; other++ {
				if other != width {
					list = append(list, [2]impl.Table{x, {Width: other}}, [2]impl.Table{x, someTables(t, other)[2]}, [2]impl.Table{{Width: width}, {Width: other}})
				}
			}
		}
	}
	for _, c := range list {
		if x, ok := impl.IntersectAll(c[0], c[1]); ok || !equal(x, impl.Table{}) {
			t.Errorf("IntersectAll(%v, %v) = %v, %v", c[0], c[1], x, ok)
		}
		if x, ok := impl.ExceptAll(c[0], c[1]); ok || !equal(x, impl.Table{}) {
			t.Errorf("ExceptAll(%v, %v) = %v, %v", c[0], c[1], x, ok)
		}
		if impl.IsSubtable(c[0], c[1]) {
			t.Errorf("IsSubtable(%v, %v) is true", c[0], c[1])
		}
	}
}

// related returns a table with some rows of a table, some of them more often than there, and some others.
func (m *maker) related(t *testing.T, x impl.Table) impl.Table {
	t.Helper()
	var list [][]impl.Value
	for _, r := range x.Rows {
		for range []int{0, 1, 1, 2}[m.below(4)] {
			list = append(list, r)
		}
	}
	if m.below(2) == 0 {
		list = append(list, m.rows(x.Width, m.below(6))...)
	}
	return tableOf(t, x.Width, list)
}

// someSets calls a check for pairs of tables of the same width, most of which have common rows.
func someSets(t *testing.T, seed uint64, check func(a impl.Table, b impl.Table)) {
	t.Helper()
	m := &maker{state: seed}
	for width := 1; width <= impl.MaxWidth; width++ {
		for _, a := range joinTables(t, width) {
			for _, b := range joinTables(t, width) {
				check(a, b)
			}
			for range 20 {
				b := m.related(t, a)
				check(a, b)
				check(b, a)
				check(m.related(t, b), b)
			}
		}
	}
}

// intersection returns IntersectAll, and fails if there is no valid result.
func intersection(t *testing.T, a impl.Table, b impl.Table) impl.Table {
	t.Helper()
	x, ok := impl.IntersectAll(a, b)
	if !ok || !impl.ValidTable(x) || x.Width != a.Width {
		t.Fatalf("IntersectAll(%v, %v) = %v, %v", shown(a), shown(b), x, ok)
	}
	return x
}

// difference returns ExceptAll, and fails if there is no valid result.
func difference(t *testing.T, a impl.Table, b impl.Table) impl.Table {
	t.Helper()
	x, ok := impl.ExceptAll(a, b)
	if !ok || !impl.ValidTable(x) || x.Width != a.Width {
		t.Fatalf("ExceptAll(%v, %v) = %v, %v", shown(a), shown(b), x, ok)
	}
	return x
}

func TestP112IntersectionsHaveTheSmallerCounts(t *testing.T) {
	some := 0
	someSets(t, 112, func(a impl.Table, b impl.Table) {
		x := intersection(t, a, b)
		for _, r := range slices.Concat(a.Rows, b.Rows, x.Rows) {
			if want := min(countOf(a.Rows, r), countOf(b.Rows, r)); impl.CountRow(x, r) != want {
				t.Fatalf("IntersectAll(%v, %v) = %v, in which the row %v does not occur %d times", shown(a), shown(b), shown(x), r, want)
			}
		}
		if y := intersection(t, b, a); !equal(x, y) {
			t.Fatalf("IntersectAll(%v, %v) = %v, with exchanged tables %v", shown(a), shown(b), shown(x), shown(y))
		}
		if n := len(x.Rows); n > 1 && n < len(a.Rows) && n < len(b.Rows) {
			some++
		}
	})
	if some < 300 {
		t.Errorf("only %d intersections have some of the rows of both tables", some)
	}
}

func TestP113DifferencesHaveTheRemainingCounts(t *testing.T) {
	some := 0
	someSets(t, 113, func(a impl.Table, b impl.Table) {
		x := difference(t, a, b)
		for _, r := range slices.Concat(a.Rows, b.Rows, x.Rows) {
			if want := max(countOf(a.Rows, r)-countOf(b.Rows, r), 0); impl.CountRow(x, r) != want {
				t.Fatalf("ExceptAll(%v, %v) = %v, in which the row %v does not occur %d times", shown(a), shown(b), shown(x), r, want)
			}
		}
		if n := len(x.Rows); n > 1 && n < len(a.Rows) {
			some++
		}
	})
	if some < 500 {
		t.Errorf("only %d differences have some of the rows", some)
	}
}

func TestP114DifferencesAndIntersectionsDivideATable(t *testing.T) {
	someSets(t, 114, func(a impl.Table, b impl.Table) {
		x, y := difference(t, a, b), intersection(t, a, b)
		if u := unionOf(t, x, y); !equal(u, a) {
			t.Fatalf("ExceptAll(%v, %v) = %v, IntersectAll = %v", shown(a), shown(b), shown(x), shown(y))
		}
	})
}

func TestP115DifferencesInvertUnions(t *testing.T) {
	someSets(t, 115, func(a impl.Table, b impl.Table) {
		if x := difference(t, unionOf(t, a, b), b); !equal(x, a) {
			t.Fatalf("ExceptAll of the union of %v and %v and the second one = %v", shown(a), shown(b), shown(x))
		}
	})
}

func TestP116SubtablesLeaveNothing(t *testing.T) {
	parts, others := 0, 0
	someSets(t, 116, func(a impl.Table, b impl.Table) {
		got := impl.IsSubtable(a, b)
		if x := difference(t, a, b); got != (len(x.Rows) == 0) {
			t.Fatalf("IsSubtable(%v, %v) is %v, ExceptAll = %v", shown(a), shown(b), got, shown(x))
		}
		if !impl.IsSubtable(a, a) || !impl.IsSubtable(intersection(t, a, b), b) {
			t.Fatalf("IsSubtable of %v and itself, or of IntersectAll and %v, is false", shown(a), shown(b))
		}
		if got && len(a.Rows) > 0 && len(a.Rows) < len(b.Rows) {
			parts++
		} else if !got && len(b.Rows) > 0 {
			others++
		}
	})
	if parts < 100 || others < 1000 {
		t.Errorf("only %d tables are parts of another one, only %d are not", parts, others)
	}
}
