package tests

import (
	"math"
	"slices"
	"testing"

	"loop.example/queryoptimizer/impl"
)

// kinds are the kinds of aggregates.
var kinds = []int{impl.CountRows, impl.CountValues, impl.SumValues, impl.MinValue, impl.MaxValue}

// wrongKinds are no kinds of aggregates.
var wrongKinds = []int{0, 6, -1, 7, 1000, math.MaxInt, math.MinInt}

// aggregated returns an aggregate, and fails if there is no valid one.
func aggregated(t *testing.T, values []impl.Value, kind int) impl.Value {
	t.Helper()
	v, ok := impl.Aggregate(values, kind)
	if !ok || !impl.ValidValue(v) {
		t.Fatalf("Aggregate(%v, %d) = %v, %v", values, kind, v, ok)
	}
	return v
}

// merged returns MergeAggregates, and fails if there is no valid result.
func merged(t *testing.T, a impl.Value, b impl.Value, kind int) impl.Value {
	t.Helper()
	v, ok := impl.MergeAggregates(a, b, kind)
	if !ok || !impl.ValidValue(v) {
		t.Fatalf("MergeAggregates(%v, %v, %d) = %v, %v", a, b, kind, v, ok)
	}
	return v
}

// grouped returns GroupBy, and fails if there is no valid result.
func grouped(t *testing.T, x impl.Table, cols []int, kind int, c int) impl.Table {
	t.Helper()
	y, ok := impl.GroupBy(x, cols, kind, c)
	if !ok || !impl.ValidTable(y) || y.Width != len(cols)+1 {
		t.Fatalf("GroupBy(%v, %v, %d, %d) = %v, %v", shown(x), cols, kind, c, y, ok)
	}
	return y
}

// withoutNulls returns the values that are not null.
func withoutNulls(values []impl.Value) []impl.Value {
	return slices.DeleteFunc(slices.Clone(values), func(v impl.Value) bool { return v.Null })
}

// slowAggregate returns an aggregate of values by the words of the document.
func slowAggregate(values []impl.Value, kind int) impl.Value {
	numbers := withoutNulls(values)
	switch {
	case kind == impl.CountRows:
		return num(len(values))
	case kind == impl.CountValues:
		return num(len(numbers))
	case len(numbers) == 0:
		return null
	case kind == impl.MinValue:
		return slices.MinFunc(numbers, impl.CompareValues)
	case kind == impl.MaxValue:
		return slices.MaxFunc(numbers, impl.CompareValues)
	}
	if sum := sumOf(values); -impl.MaxNumber <= sum && sum <= impl.MaxNumber {
		return num(sum)
	}
	return null
}

// sumOf returns the sum of the numbers of some values, in any range.
func sumOf(values []impl.Value) int {
	sum := 0
	for _, v := range values {
		sum += v.N
	}
	return sum
}

// values returns some values, often a null, and often small numbers.
func (m *maker) values(count int) []impl.Value {
	var list []impl.Value
	for range count {
		if m.below(3) == 0 {
			list = append(list, num(m.below(401)-200))
		} else {
			list = append(list, m.value())
		}
	}
	return list
}

// someValues calls a check for lists of values: without values, of nulls alone, without nulls, and mixed ones.
func someValues(seed uint64, check func(m *maker, values []impl.Value)) {
	m := &maker{state: seed}
	for n := range 5 {
		check(m, columnFrom(nulls(1, n)))
	}
	for range 1000 {
		values := m.values(m.below(12))
		check(m, values)
		check(m, withoutNulls(values))
	}
	check(m, m.values(impl.MaxRows))
}

// columnFrom returns the first value of each row.
func columnFrom(list [][]impl.Value) []impl.Value {
	var values []impl.Value
	for _, r := range list {
		values = append(values, r[0])
	}
	return values
}

func TestAggregates(t *testing.T) {
	for _, c := range []struct {
		values string
		// The number of all values, of those that are not null, their sum, the smallest and the largest one.
		want string
	}{
		{"", "0 0 null null null"}, {"null", "1 0 null null null"}, {"null null null", "3 0 null null null"}, {"0", "1 1 0 0 0"}, {"null 0", "2 1 0 0 0"}, {"5", "1 1 5 5 5"}, {"-5 null", "2 1 -5 -5 -5"},
		{"4 null 2", "3 2 6 2 4"}, {"2 4 null", "3 2 6 2 4"}, {"null 4 2 4 null 2", "6 4 12 2 4"}, {"-1 -3 -2", "3 3 -6 -3 -1"}, {"-1 0 1", "3 3 0 -1 1"}, {"3 -3", "2 2 0 -3 3"},
		{"9999", "1 1 9999 9999 9999"}, {"-9999", "1 1 -9999 -9999 -9999"}, {"9999 -9999", "2 2 0 -9999 9999"},
		// Sums of exactly the limits and one beyond them, also if only a part of the values is beyond.
		{"9998 1", "2 2 9999 1 9998"}, {"9999 1", "2 2 null 1 9999"}, {"5000 5000", "2 2 null 5000 5000"}, {"5000 null 4999", "3 2 9999 4999 5000"}, {"-9998 -1", "2 2 -9999 -9998 -1"}, {"-9999 -1", "2 2 null -9999 -1"}, {"-5000 -5000", "2 2 null -5000 -5000"},
		{"9999 9999", "2 2 null 9999 9999"}, {"9999 9999 -9999", "3 3 9999 -9999 9999"}, {"-9999 -9999 null 9999", "4 3 -9999 -9999 9999"}, {"9999 9999 -9999 1", "4 4 null -9999 9999"},
	} {
		for i, want := range row(c.want) {
			if got := aggregated(t, row(c.values), kinds[i]); got != want {
				t.Errorf("Aggregate of %q and the kind %d = %v, want %v", c.values, kinds[i], got, want)
			}
			if got := aggregated(t, reversedValues(row(c.values)), kinds[i]); got != want {
				t.Errorf("Aggregate of %q in the opposite order and the kind %d = %v, want %v", c.values, kinds[i], got, want)
			}
		}
	}
	for _, c := range []struct {
		v    impl.Value
		want string
	}{{null, "400 0 null null null"}, {num(0), "400 400 0 0 0"}, {num(24), "400 400 9600 24 24"}, {num(-25), "400 400 null -25 -25"}, {num(9999), "400 400 null 9999 9999"}} {
		for i, want := range row(c.want) {
			if got := aggregated(t, slices.Repeat([]impl.Value{c.v}, impl.MaxRows), kinds[i]); got != want {
				t.Errorf("Aggregate of MaxRows times %v and the kind %d = %v, want %v", c.v, kinds[i], got, want)
			}
		}
	}
}

// reversedValues returns values in the opposite order.
func reversedValues(values []impl.Value) []impl.Value {
	result := slices.Clone(values)
	slices.Reverse(result)
	return result
}

func TestAggregatesOfRandomValues(t *testing.T) {
	sums, beyond := 0, 0
	someValues(1170, func(_ *maker, values []impl.Value) {
		for _, kind := range kinds {
			if got, want := aggregated(t, values, kind), slowAggregate(values, kind); got != want {
				t.Fatalf("Aggregate(%v, %d) = %v, want %v", values, kind, got, want)
			}
		}
		if aggregated(t, values, impl.SumValues) != null {
			sums++
		} else if len(withoutNulls(values)) > 0 {
			beyond++
		}
	})
	if sums < 300 || beyond < 100 {
		t.Errorf("only %d sums are in range, only %d are not", sums, beyond)
	}
}

func TestAggregatesOfInvalidArguments(t *testing.T) {
	refuses := func(values []impl.Value, kind int) {
		t.Helper()
		if v, ok := impl.Aggregate(values, kind); ok || v != (impl.Value{}) {
			t.Errorf("Aggregate(%v, %d) = %v, %v", values, kind, v, ok)
		}
	}
	for _, kind := range wrongKinds {
		for _, s := range []string{"", "null", "1", "1 null 2"} {
			refuses(row(s), kind)
		}
	}
	for _, kind := range kinds {
		refuses(slices.Repeat(row("1"), impl.MaxRows+1), kind)
		refuses(slices.Repeat(row("null"), impl.MaxRows+1), kind)
		refuses(make([]impl.Value, 100000), kind)
		for _, v := range invalidValues {
			refuses([]impl.Value{v}, kind)
			refuses([]impl.Value{num(1), v}, kind)
			refuses([]impl.Value{v, null, num(1)}, kind)
		}
	}
}

func TestP117AggregatesIgnoreNulls(t *testing.T) {
	someValues(117, func(m *maker, values []impl.Value) {
		if len(values) < impl.MaxRows {
			at := m.below(len(values) + 1)
			values = slices.Insert(slices.Clone(values), at, null)
		}
		for _, kind := range kinds[1:] {
			if with, without := aggregated(t, values, kind), aggregated(t, withoutNulls(values), kind); with != without {
				t.Fatalf("Aggregate(%v, %d) = %v, without nulls %v", values, kind, with, without)
			}
		}
		if got := aggregated(t, values, impl.CountRows); got != num(len(values)) {
			t.Fatalf("CountRows of %v = %v", values, got)
		}
	})
}

func TestP118MinimumAndMaximumAreValues(t *testing.T) {
	someValues(118, func(_ *maker, values []impl.Value) {
		least, most := aggregated(t, values, impl.MinValue), aggregated(t, values, impl.MaxValue)
		numbers := withoutNulls(values)
		if len(numbers) == 0 {
			if least != null || most != null {
				t.Fatalf("MinValue and MaxValue of %v = %v, %v", values, least, most)
			}
			return
		}
		if !slices.Contains(numbers, least) || !slices.Contains(numbers, most) {
			t.Fatalf("MinValue and MaxValue of %v = %v, %v", values, least, most)
		}
		for _, v := range numbers {
			if v.N < least.N || v.N > most.N {
				t.Fatalf("MinValue and MaxValue of %v = %v, %v", values, least, most)
			}
		}
	})
}

func TestP119AggregatesOfPartsCanBeMerged(t *testing.T) {
	inRange, found := func(values []impl.Value) bool {
		sum := sumOf(values)
		return -impl.MaxNumber <= sum && sum <= impl.MaxNumber
	}, 0
	someValues(119, func(m *maker, values []impl.Value) {
		for at := 0; at <= len(values); at += 1 + len(values)/20 {
			first, rest := values[:at], values[at:]
			for _, kind := range kinds {
				if kind == impl.SumValues && !(inRange(values) && inRange(first) && inRange(rest)) {
					continue
				}
				want := aggregated(t, values, kind)
				if got := merged(t, aggregated(t, first, kind), aggregated(t, rest, kind), kind); got != want {
					t.Fatalf("MergeAggregates of %v and %v for the kind %d = %v, want %v", first, rest, kind, got, want)
				}
				if kind == impl.SumValues && want != null {
					found++
				}
			}
		}
	})
	if found < 2000 {
		t.Errorf("only %d sums are in range", found)
	}
}

func TestMergeAggregates(t *testing.T) {
	for _, c := range []struct {
		a, b string
		// The results for sums, smallest and largest values.
		want string
	}{
		{"3", "4", "7 3 4"}, {"4", "-3", "1 -3 4"}, {"0", "0", "0 0 0"}, {"0", "5", "5 0 5"}, {"-2", "-2", "-4 -2 -2"},
		{"null", "null", "null null null"}, {"null", "4", "4 4 4"}, {"null", "0", "0 0 0"}, {"null", "-9999", "-9999 -9999 -9999"}, {"null", "9999", "9999 9999 9999"},
		{"9998", "1", "9999 1 9998"}, {"9999", "1", "null 1 9999"}, {"9999", "9999", "null 9999 9999"}, {"9999", "-9999", "0 -9999 9999"}, {"-9999", "-1", "null -9999 -1"}, {"-9998", "-1", "-9999 -9998 -1"},
	} {
		a, b, want := row(c.a)[0], row(c.b)[0], row(c.want)
		for i, kind := range kinds {
			expected := want[max(i-2, 0)]
			if got := merged(t, a, b, kind); got != expected {
				t.Errorf("MergeAggregates(%v, %v, %d) = %v, want %v", a, b, kind, got, expected)
			}
			if got := merged(t, b, a, kind); got != expected {
				t.Errorf("MergeAggregates(%v, %v, %d) = %v, want %v", b, a, kind, got, expected)
			}
		}
	}
	for _, kind := range append(slices.Clone(kinds), wrongKinds...) {
		for _, v := range append(slices.Clone(invalidValues), num(1), null) {
			for _, w := range append(slices.Clone(invalidValues), num(2), null) {
				if slices.Contains(kinds, kind) && impl.ValidValue(v) && impl.ValidValue(w) {
					continue
				}
				if got, ok := impl.MergeAggregates(v, w, kind); ok || got != (impl.Value{}) {
					t.Errorf("MergeAggregates(%v, %v, %d) = %v, %v", v, w, kind, got, ok)
				}
			}
		}
	}
}

func TestP120MergingIsCommutative(t *testing.T) {
	m := &maker{state: 120}
	list := slices.Clone(orderedValues)
	for range 20 {
		list = append(list, m.value())
	}
	for _, kind := range kinds {
		for _, a := range list {
			for _, b := range list {
				want := slowAggregate([]impl.Value{a, b}, max(kind, impl.SumValues))
				if x, y := merged(t, a, b, kind), merged(t, b, a, kind); x != y || x != want {
					t.Fatalf("MergeAggregates(%v, %v, %d) = %v, in the opposite order %v, want %v", a, b, kind, x, y, want)
				}
			}
			if x, y := merged(t, a, null, kind), merged(t, null, a, kind); x != a || y != a {
				t.Fatalf("MergeAggregates(%v, null, %d) = %v, in the opposite order %v", a, kind, x, y)
			}
		}
	}
}

func TestGroupBy(t *testing.T) {
	x := table(t, 3, "null null 4", "null 1 null", "null 1 -2", "-9999 0 9999", "1 null null", "1 1 null", "1 2 7", "1 2 7", "9999 1 9999", "9999 2 -1")
	for _, c := range []struct {
		cols      []int
		kind, col int
		want      []string
	}{
		{nil, impl.CountRows, 2, []string{"10"}}, {nil, impl.CountValues, 2, []string{"7"}}, {nil, impl.SumValues, 2, []string{"null"}}, {nil, impl.SumValues, 1, []string{"10"}}, {nil, impl.MinValue, 2, []string{"-2"}}, {nil, impl.MaxValue, 0, []string{"9999"}},
		{[]int{0}, impl.CountRows, 2, []string{"null 3", "-9999 1", "1 4", "9999 2"}}, {[]int{0}, impl.CountValues, 2, []string{"null 2", "-9999 1", "1 2", "9999 2"}}, {[]int{0}, impl.SumValues, 2, []string{"null 2", "-9999 9999", "1 14", "9999 9998"}}, {[]int{0}, impl.MinValue, 1, []string{"null 1", "-9999 0", "1 1", "9999 1"}}, {[]int{0}, impl.MaxValue, 1, []string{"null 1", "-9999 0", "1 2", "9999 2"}},
		{[]int{1}, impl.SumValues, 2, []string{"null 4", "0 9999", "1 9997", "2 13"}}, {[]int{1}, impl.MinValue, 2, []string{"null 4", "0 9999", "1 -2", "2 -1"}}, {[]int{1}, impl.CountValues, 0, []string{"null 1", "0 1", "1 2", "2 3"}},
		{[]int{2}, impl.CountRows, 0, []string{"null 3", "-2 1", "-1 1", "4 1", "7 2", "9999 2"}}, {[]int{2}, impl.MaxValue, 2, []string{"null null", "-2 -2", "-1 -1", "4 4", "7 7", "9999 9999"}}, {[]int{2}, impl.SumValues, 2, []string{"null null", "-2 -2", "-1 -1", "4 4", "7 14", "9999 null"}},
		{[]int{0, 1}, impl.SumValues, 2, []string{"null null 4", "null 1 -2", "-9999 0 9999", "1 null null", "1 1 null", "1 2 14", "9999 1 9999", "9999 2 -1"}}, {[]int{1, 2}, impl.CountValues, 0, []string{"null null 1", "null 4 0", "0 9999 1", "1 null 1", "1 -2 0", "1 9999 1", "2 -1 1", "2 7 2"}}, {[]int{0, 2}, impl.CountRows, 1, []string{"null null 1", "null -2 1", "null 4 1", "-9999 9999 1", "1 null 2", "1 7 2", "9999 -1 1", "9999 9999 1"}},
		{[]int{0, 1, 2}, impl.CountRows, 0, []string{"null null 4 1", "null 1 null 1", "null 1 -2 1", "-9999 0 9999 1", "1 null null 1", "1 1 null 1", "1 2 7 2", "9999 1 9999 1", "9999 2 -1 1"}},
	} {
		if got := grouped(t, x, c.cols, c.kind, c.col); !equal(got, impl.Table{Width: len(c.cols) + 1, Rows: rows(c.want...)}) {
			t.Errorf("GroupBy(%v, %d, %d) = %v, want %q", c.cols, c.kind, c.col, shown(got), c.want)
		}
	}
	wide := table(t, 6, "1 2 3 4 5 6", "1 2 3 4 5 7", "1 2 3 4 null 8", "2 2 3 4 5 6")
	if got := grouped(t, wide, []int{0, 1, 2, 3, 4}, impl.SumValues, 5); !equal(got.Rows, rows("1 2 3 4 null 8", "1 2 3 4 5 13", "2 2 3 4 5 6")) {
		t.Errorf("GroupBy MaxWidth-1 columns = %v", shown(got))
	}
	if got := grouped(t, wide, []int{5}, impl.MinValue, 0); !equal(got.Rows, rows("6 1", "7 1", "8 1")) {
		t.Errorf("GroupBy the last column = %v", shown(got))
	}
	if got := grouped(t, tableOf(t, 1, numbered(0, impl.MaxRows)), []int{0}, impl.MaxValue, 0); len(got.Rows) != impl.MaxRows || !equal(got.Rows[7], row("7 7")) {
		t.Errorf("GroupBy of MaxRows groups = %v", shown(got))
	}
	for width := 1; width <= impl.MaxWidth; width++ {
		for _, cols := range [][]int{nil, {0}, {width - 1}} {
			for _, kind := range kinds {
				if got := grouped(t, impl.Table{Width: width}, cols, kind, width-1); len(got.Rows) != 0 {
					t.Errorf("GroupBy(%v, %d) of a table without rows = %v", cols, kind, shown(got))
				}
			}
		}
	}
}

func TestGroupByOfInvalidArguments(t *testing.T) {
	refuses := func(x impl.Table, cols []int, kind int, c int) {
		t.Helper()
		if y, ok := impl.GroupBy(x, cols, kind, c); ok || !equal(y, impl.Table{}) {
			t.Errorf("GroupBy(%v, %v, %d, %d) = %v, %v", x, cols, kind, c, y, ok)
		}
	}
	for _, x := range invalidTables() {
		for _, kind := range kinds {
			refuses(x, nil, kind, 0)
			refuses(x, []int{0}, kind, 0)
		}
	}
	for width := 1; width <= impl.MaxWidth; width++ {
		for _, x := range joinTables(t, width)[:4] {
			for _, c := range wrongColumns(width) {
				refuses(x, nil, impl.CountRows, c)
				refuses(x, []int{0}, impl.SumValues, c)
				refuses(x, []int{c}, impl.CountRows, 0)
				refuses(x, []int{0, c}, impl.CountRows, 0)
			}
			for _, kind := range wrongKinds {
				refuses(x, nil, kind, 0)
				refuses(x, []int{width - 1}, kind, 0)
			}
			refuses(x, []int{0, 0}, impl.CountRows, 0)
			refuses(x, []int{width - 1, width - 1}, impl.CountRows, 0)
			refuses(x, []int{width - 1, 0}, impl.CountRows, 0)
			refuses(x, []int{0, 1, 2, 3, 4, 5}, impl.CountRows, 0)
			refuses(x, make([]int, 1000), impl.CountRows, 0)
			if width > 2 {
				refuses(x, []int{0, 2, 1}, impl.CountRows, 0)
				refuses(x, []int{1, 2, 2}, impl.CountRows, 0)
			}
		}
	}
}

// groupColumns returns ascending columns of a width, fewer than MaxWidth.
func (m *maker) groupColumns(width int) []int {
	var cols []int
	for c := range min(width, impl.MaxWidth-1) {
		if m.below(3) == 0 {
			cols = append(cols, c)
		}
	}
	if len(cols) == 0 && width == impl.MaxWidth && m.below(2) == 0 {
		cols = []int{width - 1}
	}
	return cols
}

// slowGroups returns the groups of a table with an aggregate of a column, by the words of the document, in any order.
func slowGroups(x impl.Table, cols []int, kind int, c int) [][]impl.Value {
	keys := picked(x.Rows, cols)
	var list [][]impl.Value
	for i, key := range keys {
		if countOf(keys[:i], key) > 0 {
			continue
		}
		var values []impl.Value
		for k, r := range x.Rows {
			if slices.Equal(keys[k], key) {
				values = append(values, r[c])
			}
		}
		list = append(list, slices.Concat(key, []impl.Value{slowAggregate(values, kind)}))
	}
	return list
}

// someGroups calls a check for tables of all widths and columns by which they are grouped.
func someGroups(t *testing.T, seed uint64, check func(m *maker, x impl.Table, cols []int)) {
	t.Helper()
	m := &maker{state: seed}
	for width := 1; width <= impl.MaxWidth; width++ {
		for _, x := range append(joinTables(t, width), someTables(t, width)[5]) {
			for range 10 {
				check(m, x, m.groupColumns(width))
			}
		}
	}
}

func TestGroupByOfRandomTables(t *testing.T) {
	several := 0
	someGroups(t, 1210, func(m *maker, x impl.Table, cols []int) {
		for _, kind := range kinds {
			c := m.below(x.Width)
			got := grouped(t, x, cols, kind, c)
			if want := tableOf(t, len(cols)+1, slowGroups(x, cols, kind, c)); !equal(got, want) {
				t.Fatalf("GroupBy(%v, %v, %d, %d) = %v, want %v", shown(x), cols, kind, c, shown(got), shown(want))
			}
			if n := len(got.Rows); n > 1 && n < len(x.Rows) {
				several++
			}
		}
	})
	if several < 500 {
		t.Errorf("only %d groupings have several groups, one of them with several rows", several)
	}
}

func TestP121CountedGroupsAreThoseOfPlans(t *testing.T) {
	someGroups(t, 121, func(m *maker, x impl.Table, cols []int) {
		got := grouped(t, x, cols, impl.CountRows, m.below(x.Width))
		if want := rowsOf(t, group(scan(0), cols...), []impl.Table{x}); !equal(got.Rows, want) {
			t.Fatalf("GroupBy(%v, %v) = %v, the group has the rows %v", shown(x), cols, shown(got), want)
		}
	})
}

func TestP122TheAggregateOfOneGroupIsThatOfAllRows(t *testing.T) {
	for width := 1; width <= impl.MaxWidth; width++ {
		for _, x := range joinTables(t, width) {
			for c := range width {
				for _, kind := range kinds {
					var want [][]impl.Value
					if len(x.Rows) > 0 {
						want = [][]impl.Value{{aggregated(t, columnOf(x, c), kind)}}
					}
					if got := grouped(t, x, nil, kind, c); !equal(got.Rows, want) {
						t.Fatalf("GroupBy(%v, no columns, %d, %d) = %v, want %v", shown(x), kind, c, shown(got), want)
					}
				}
			}
		}
	}
}
