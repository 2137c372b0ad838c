package tests

import (
	"math"
	"slices"
	"testing"

	"loop.example/queryoptimizer/impl"
)

// up returns the sort key of a column in ascending order.
func up(c int) impl.SortKey {
	return impl.SortKey{Col: c}
}

// down returns the sort key of a column in descending order.
func down(c int) impl.SortKey {
	return impl.SortKey{Col: c, Down: true}
}

// keysOf returns a list of sort keys.
func keysOf(keys ...impl.SortKey) []impl.SortKey {
	return keys
}

// wrongKeys returns lists of sort keys that are not valid for a width.
func wrongKeys(width int) [][]impl.SortKey {
	list := [][]impl.SortKey{keysOf(up(0), up(0)), keysOf(up(0), down(0)), keysOf(down(0), down(0)), make([]impl.SortKey, 1000)}
	for _, c := range wrongColumns(width) {
		list = append(list, keysOf(up(c)), keysOf(down(c)), keysOf(up(0), up(c)), keysOf(up(c), down(0)))
	}
	if width > 2 {
		list = append(list, keysOf(up(1), up(2), down(1)), keysOf(up(0), up(1), up(2), up(0)), keysOf(down(width-1), up(0), down(width-1)))
	}
	var all []impl.SortKey
	for c := range width {
		all = append(all, up(c))
	}
	return append(list, slices.Concat(all, all), append(all, up(width-1)))
}

// keys returns valid sort keys for a width.
func (m *maker) keys(width int) []impl.SortKey {
	var list []impl.SortKey
	for range m.below(width + 1) {
		key := impl.SortKey{Col: m.below(width), Down: m.below(2) == 0}
		if !slices.Contains(list, up(key.Col)) && !slices.Contains(list, down(key.Col)) {
			list = append(list, key)
		}
	}
	return list
}

// before reports whether a row comes before another one in the order of some keys.
func before(a []impl.Value, b []impl.Value, keys []impl.SortKey) bool {
	for _, key := range keys {
		c := impl.CompareValues(a[key.Col], b[key.Col])
		if key.Down {
			c = -c
		}
		if c != 0 {
			return c < 0
		}
	}
	return false
}

// slowSorted returns rows in the order of some keys: again and again the first row before which no other one comes.
func slowSorted(list [][]impl.Value, keys []impl.SortKey) [][]impl.Value {
	rest := slices.Clone(list)
	var result [][]impl.Value
	for len(rest) > 0 {
		first := 0
		for i, r := range rest {
			if before(r, rest[first], keys) {
				first = i
			}
		}
		result = append(result, rest[first])
		rest = slices.Delete(rest, first, first+1)
	}
	return result
}

// slowIsSorted reports whether no row comes before an earlier one.
func slowIsSorted(list [][]impl.Value, keys []impl.SortKey) bool {
	for i := range list {
		for k := range i {
			if before(list[i], list[k], keys) {
				return false
			}
		}
	}
	return true
}

// someSorts yields tables of all widths with sort keys.
func someSorts(t *testing.T, seed uint64, check func(m *maker, x impl.Table, keys []impl.SortKey)) {
	t.Helper()
	m := &maker{state: seed}
	for width := 1; width <= impl.MaxWidth; width++ {
		for _, x := range someTables(t, width) {
			for range 40 {
				check(m, x, m.keys(width))
			}
		}
	}
}

func TestSortRows(t *testing.T) {
	x := table(t, 2, "null 3", "null 4", "1 null", "1 3", "1 3", "2 null", "2 0", "9999 -9999")
	for _, c := range []struct {
		keys []impl.SortKey
		want []string
	}{
		{nil, []string{"null 3", "null 4", "1 null", "1 3", "1 3", "2 null", "2 0", "9999 -9999"}}, {keysOf(up(0)), []string{"null 3", "null 4", "1 null", "1 3", "1 3", "2 null", "2 0", "9999 -9999"}}, {keysOf(up(0), up(1)), []string{"null 3", "null 4", "1 null", "1 3", "1 3", "2 null", "2 0", "9999 -9999"}},
		// Nulls come first, or last in descending order; rows that are equal in all keys stay in the order of the table.
		{keysOf(down(0)), []string{"9999 -9999", "2 null", "2 0", "1 null", "1 3", "1 3", "null 3", "null 4"}}, {keysOf(up(1)), []string{"1 null", "2 null", "9999 -9999", "2 0", "null 3", "1 3", "1 3", "null 4"}}, {keysOf(down(1)), []string{"null 4", "null 3", "1 3", "1 3", "2 0", "9999 -9999", "1 null", "2 null"}},
		{keysOf(down(0), up(1)), []string{"9999 -9999", "2 null", "2 0", "1 null", "1 3", "1 3", "null 3", "null 4"}}, {keysOf(up(0), down(1)), []string{"null 4", "null 3", "1 3", "1 3", "1 null", "2 0", "2 null", "9999 -9999"}}, {keysOf(down(0), down(1)), []string{"9999 -9999", "2 0", "2 null", "1 3", "1 3", "1 null", "null 4", "null 3"}},
		{keysOf(up(1), up(0)), []string{"1 null", "2 null", "9999 -9999", "2 0", "null 3", "1 3", "1 3", "null 4"}}, {keysOf(up(1), down(0)), []string{"2 null", "1 null", "9999 -9999", "2 0", "1 3", "1 3", "null 3", "null 4"}}, {keysOf(down(1), down(0)), []string{"null 4", "1 3", "1 3", "null 3", "2 0", "9999 -9999", "2 null", "1 null"}},
	} {
		if got := impl.SortRows(x, c.keys); !equal(got, rows(c.want...)) {
			t.Errorf("SortRows(%v, %v) = %v, want %q", x, c.keys, got, c.want)
		}
	}
	wide := table(t, 6, "1 1 1 1 1 1", "1 1 1 1 1 2", "1 1 1 1 2 1", "2 1 1 1 2 1")
	if got := impl.SortRows(wide, keysOf(up(3), down(4), up(2), down(5), up(1), down(0))); !equal(got, rows("2 1 1 1 2 1", "1 1 1 1 2 1", "1 1 1 1 1 2", "1 1 1 1 1 1")) {
		t.Errorf("SortRows by MaxWidth keys = %v", got)
	}
	most := tableOf(t, 1, numbered(0, impl.MaxRows))
	if got := impl.SortRows(most, keysOf(down(0))); !equal(got, reversed(most.Rows)) {
		t.Errorf("SortRows of MaxRows rows = %v", got)
	}
}

func TestTopRows(t *testing.T) {
	x := table(t, 2, "null 3", "1 null", "1 3", "2 0")
	sorted := rows("1 3", "null 3", "2 0", "1 null")
	for n, want := range map[int]int{0: 0, 1: 1, 2: 2, 3: 3, 4: 4, 5: 4, impl.MaxRows: 4, impl.MaxRows + 1: 4, math.MaxInt: 4} {
		if got := impl.TopRows(x, keysOf(down(1), down(0)), n); !equal(got, sorted[:want]) {
			t.Errorf("TopRows(%v, %d) = %v", x, n, got)
		}
	}
	for _, n := range []int{0, 1, impl.MaxRows} {
		if got := impl.TopRows(impl.Table{Width: 3}, keysOf(up(2)), n); len(got) != 0 {
			t.Errorf("TopRows of a table without rows = %v", got)
		}
	}
	most := tableOf(t, 1, numbered(0, impl.MaxRows))
	for _, n := range []int{1, impl.MaxRows - 1, impl.MaxRows, impl.MaxRows + 1} {
		if got := impl.TopRows(most, nil, n); !equal(got, most.Rows[:min(n, impl.MaxRows)]) {
			t.Errorf("TopRows of MaxRows rows, %d = %v", n, got)
		}
	}
}

func TestSortingOfInvalidArguments(t *testing.T) {
	refuses := func(x impl.Table, keys []impl.SortKey, n int) {
		t.Helper()
		if got := impl.TopRows(x, keys, n); got != nil {
			t.Errorf("TopRows(%v, %v, %d) = %v", x, keys, n, got)
		}
		if got := impl.SortRows(x, keys); n >= 0 && got != nil {
			t.Errorf("SortRows(%v, %v) = %v", x, keys, got)
		}
	}
	for _, x := range invalidTables() {
		refuses(x, nil, 0)
		refuses(x, nil, 3)
		refuses(x, keysOf(up(0)), 3)
	}
	for width := 1; width <= impl.MaxWidth; width++ {
		for _, x := range someTables(t, width)[:3] {
			for _, keys := range wrongKeys(width) {
				refuses(x, keys, 0)
				refuses(x, keys, 3)
			}
			for _, n := range []int{-1, -2, math.MinInt} {
				refuses(x, nil, n)
				refuses(x, keysOf(up(0)), n)
			}
		}
	}
}

func TestIsSorted(t *testing.T) {
	for _, c := range []struct {
		rows []string
		keys []impl.SortKey
		want bool
	}{
		{[]string{"3 1"}, nil, true}, {[]string{"3 1"}, keysOf(up(0)), true}, {[]string{"3 1", "2 5", "3 1"}, nil, true}, {[]string{"1 5", "2 3", "3 4"}, keysOf(up(0)), true}, {[]string{"1 5", "2 3", "3 4"}, keysOf(up(1)), false}, {[]string{"1 5", "2 3", "3 4"}, keysOf(down(0)), false}, {[]string{"1 5", "2 4", "3 3"}, keysOf(down(1)), true},
		// Rows that are equal in the keys may be in any order.
		{[]string{"1 5", "1 3", "1 4"}, keysOf(up(0)), true}, {[]string{"1 5", "1 3", "1 4"}, keysOf(down(0)), true}, {[]string{"1 5", "1 3", "1 4"}, keysOf(up(0), up(1)), false}, {[]string{"1 5", "1 4", "1 4"}, keysOf(up(0), down(1)), true}, {[]string{"1 5", "1 5", "1 5"}, keysOf(down(0), up(1)), true}, {[]string{"2 5", "1 9", "1 8"}, keysOf(down(0), down(1)), true},
		{[]string{"1 5", "2 4", "2 5"}, keysOf(up(0), down(1)), false}, {[]string{"1 5", "2 4", "2 5"}, keysOf(up(0), up(1)), true}, {[]string{"5 1", "4 2", "5 2"}, keysOf(up(1), up(0)), true}, {[]string{"5 1", "4 2", "5 2"}, keysOf(up(1), down(0)), false}, {[]string{"1 1", "3 1", "2 1"}, keysOf(up(1), up(0)), false},
		// Nulls come first, or last in descending order.
		{[]string{"null 1", "-9999 1"}, keysOf(up(0)), true}, {[]string{"null 1", "-9999 1"}, keysOf(down(0)), false}, {[]string{"-9999 1", "null 1"}, keysOf(down(0)), true}, {[]string{"-9999 1", "null 1"}, keysOf(up(0)), false}, {[]string{"null 1", "null 1"}, keysOf(down(0), up(1)), true}, {[]string{"0 1", "null 1"}, keysOf(up(1)), true}, {[]string{"null 2", "null 1"}, keysOf(up(0), up(1)), false},
	} {
		if got := impl.IsSorted(rows(c.rows...), c.keys); got != c.want {
			t.Errorf("IsSorted(%q, %v) is %v", c.rows, c.keys, got)
		}
	}
}

func TestIsSortedAtTheLimits(t *testing.T) {
	for _, keys := range [][]impl.SortKey{nil, keysOf(up(0)), keysOf(down(0))} {
		for _, count := range []int{impl.MaxRows, impl.MaxRows + 1} {
			list := numbered(0, count)
			if len(keys) > 0 && keys[0].Down {
				list = reversed(list)
			}
			if got := impl.IsSorted(list, keys); got != (count == impl.MaxRows) {
				t.Errorf("IsSorted of %d rows by %v is %v", count, keys, got)
			}
		}
	}
	wide := rows("1 2 3 4 5 6", "1 2 3 4 6 5")
	if !impl.IsSorted(wide, keysOf(up(4))) || !impl.IsSorted(wide, keysOf(down(5), up(0))) || impl.IsSorted(wide, keysOf(up(0), up(1), up(2), up(3), down(4))) {
		t.Error("IsSorted of rows of the width MaxWidth")
	}
}

func TestIsSortedOfInvalidArguments(t *testing.T) {
	for _, list := range [][][]impl.Value{
		{nil}, {{}}, {nil, nil}, rows("1 2 3 4 5 6 7"), rows("1", "1 2"), rows("1 2", "1"), rows("1 2", "1 2", "1 2 3"), {row("1"), nil}, {nil, row("1")}, rows("10000"), rows("1", "10000"), rows("-10000", "1"), {row("1"), {{Null: true, N: 1}}}, {{{Null: true, N: 1}}, row("1")}, numbered(0, impl.MaxRows+1),
	} {
		for _, keys := range [][]impl.SortKey{nil, keysOf(up(0))} {
			if impl.IsSorted(list, keys) {
				t.Errorf("IsSorted(%v, %v) is true", list, keys)
			}
		}
	}
	for width := 1; width <= impl.MaxWidth; width++ {
		one := row("1 2 3 4 5 6")[:width]
		for _, keys := range wrongKeys(width) {
			if impl.IsSorted([][]impl.Value{one}, keys) || impl.IsSorted([][]impl.Value{one, one}, keys) {
				t.Errorf("IsSorted of rows of the width %d by %v is true", width, keys)
			}
			// There is no width for which the keys are invalid.
			if !impl.IsSorted(nil, keys) || !impl.IsSorted([][]impl.Value{}, keys) {
				t.Errorf("IsSorted of no rows by %v is false", keys)
			}
		}
	}
}

func TestP097SortingKeepsTheRows(t *testing.T) {
	moved := 0
	someSorts(t, 97, func(m *maker, x impl.Table, keys []impl.SortKey) {
		got := impl.SortRows(x, keys)
		if want := slowSorted(x.Rows, keys); !equal(got, want) {
			t.Fatalf("SortRows(%v, %v) = %v, want %v", x, keys, got, want)
		}
		if !impl.IsSorted(got, keys) || !equal(tableOf(t, x.Width, got), x) {
			t.Fatalf("SortRows(%v, %v) = %v", x, keys, got)
		}
		if none := impl.SortRows(x, nil); !equal(none, x.Rows) {
			t.Fatalf("SortRows(%v, nil) = %v", x, none)
		}
		if !equal(got, x.Rows) {
			moved++
		}
	})
	if moved < 200 {
		t.Errorf("only %d tables are sorted in another order", moved)
	}
}

func TestP098SortedRowsAreSortedByFewerKeys(t *testing.T) {
	some, unsorted := 0, 0
	someSorts(t, 98, func(m *maker, x impl.Table, keys []impl.SortKey) {
		list := impl.SortRows(x, keys)
		if len(list) > 1 && m.below(2) == 0 {
			i, k := m.below(len(list)), m.below(len(list))
			list[i], list[k] = list[k], list[i]
		}
		got := impl.IsSorted(list, keys)
		if got != slowIsSorted(list, keys) {
			t.Fatalf("IsSorted(%v, %v) is %v", list, keys, got)
		}
		if !got {
			unsorted++
			return
		}
		for n := range keys {
			if !impl.IsSorted(list, keys[:n]) {
				t.Fatalf("IsSorted(%v, %v) is true, but not for %v", list, keys, keys[:n])
			}
		}
		part := slices.DeleteFunc(slices.Clone(list), func([]impl.Value) bool { return m.below(3) == 0 })
		if !impl.IsSorted(part, keys) {
			t.Fatalf("IsSorted(%v, %v) is true, but not for %v", list, keys, part)
		}
		if len(keys) > 1 && len(part) > 1 {
			some++
		}
	})
	if some < 150 || unsorted < 100 {
		t.Errorf("only %d lists are sorted by several keys, only %d are not sorted", some, unsorted)
	}
}

func TestOrderCovers(t *testing.T) {
	a, b := up(0), down(1)
	for _, c := range []struct {
		has, want []impl.SortKey
		result    bool
	}{
		{nil, nil, true}, {keysOf(a), nil, true}, {nil, keysOf(a), false}, {keysOf(a), keysOf(a), true}, {keysOf(a), keysOf(a, b), false}, {keysOf(a, b), keysOf(a), true}, {keysOf(a, b), keysOf(b), false}, {keysOf(a, b), keysOf(a, b), true}, {keysOf(a, b), keysOf(b, a), false}, {keysOf(a, b), []impl.SortKey{}, true},
		{keysOf(up(0)), keysOf(down(0)), false}, {keysOf(down(0)), keysOf(up(0)), false}, {keysOf(up(0)), keysOf(up(1)), false}, {keysOf(a, b, up(2)), keysOf(a, up(2)), false}, {keysOf(a, b, up(2)), keysOf(a, b), true}, {keysOf(a, b, up(2)), keysOf(a, b, down(2)), false}, {keysOf(a, b), keysOf(a, b, a), false},
		// Keys that are valid for no width.
		{keysOf(a, a), keysOf(a), true}, {keysOf(a), keysOf(a, a), false}, {keysOf(up(-1), a), keysOf(up(-1)), true}, {keysOf(up(math.MaxInt)), keysOf(up(math.MaxInt)), true}, {keysOf(up(math.MaxInt)), keysOf(up(math.MinInt)), false}, {make([]impl.SortKey, 1000), make([]impl.SortKey, 999), true}, {make([]impl.SortKey, 999), make([]impl.SortKey, 1000), false},
	} {
		if got := impl.OrderCovers(c.has, c.want); got != c.result {
			t.Errorf("OrderCovers(%v, %v) is %v", c.has, c.want, got)
		}
	}
}

func TestP099CoveredOrdersNeedNoSorting(t *testing.T) {
	covered, other := 0, 0
	someSorts(t, 99, func(m *maker, x impl.Table, keys []impl.SortKey) {
		list := impl.SortRows(x, keys)
		for n := range len(keys) + 1 {
			if !impl.OrderCovers(keys, keys[:n]) || !impl.IsSorted(list, keys[:n]) || n < len(keys) && impl.OrderCovers(keys[:n], keys) {
				t.Fatalf("OrderCovers of %v and %v, or IsSorted(%v)", keys, keys[:n], list)
			}
		}
		want := m.keys(x.Width)
		got := impl.OrderCovers(keys, want)
		if got != (len(want) <= len(keys) && equal(keys[:min(len(want), len(keys))], want)) || got && !impl.IsSorted(list, want) {
			t.Fatalf("OrderCovers(%v, %v) is %v", keys, want, got)
		}
		if got && len(want) > 0 {
			covered++
		}
		if !got {
			other++
		}
	})
	if covered < 20 || other < 300 {
		t.Errorf("only %d orders cover others, only %d do not", covered, other)
	}
}

func TestP100TheFirstRowsAreTheBeginningOfTheSortedRows(t *testing.T) {
	someSorts(t, 100, func(m *maker, x impl.Table, keys []impl.SortKey) {
		sorted := impl.SortRows(x, keys)
		for _, n := range []int{0, 1, m.below(len(sorted) + 1), m.below(len(sorted) + 1), len(sorted), len(sorted) + 1, impl.MaxRows, math.MaxInt} {
			got := impl.TopRows(x, keys, n)
			if !equal(got, sorted[:min(n, len(sorted))]) {
				t.Fatalf("TopRows(%v, %v, %d) = %v, want the first ones of %v", x, keys, n, got, sorted)
			}
			k := m.below(min(n, 100) + 1)
			if fewer := impl.TopRows(x, keys, k); len(fewer) > len(got) || !equal(fewer, got[:len(fewer)]) {
				t.Fatalf("TopRows(%v, %v, %d) = %v, but %v for %d", x, keys, n, got, fewer, k)
			}
		}
	})
}
