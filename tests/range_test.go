package tests

import (
	"math"
	"slices"
	"testing"

	"loop.example/queryoptimizer/impl"
)

// less returns the comparison LessThan of two expressions.
func less(e impl.Expr, f impl.Expr) impl.Expr {
	return op(impl.LessThan, e, f)
}

// is returns the comparison EqualTo of two expressions.
func is(e impl.Expr, f impl.Expr) impl.Expr {
	return op(impl.EqualTo, e, f)
}

// or returns the disjunction of two expressions.
func or(e impl.Expr, f impl.Expr) impl.Expr {
	return op(impl.OrExpr, e, f)
}

// between returns the range from one number to another one.
func between(low int, high int) impl.Range {
	return impl.Range{Low: low, High: high}
}

// wrongColumns returns numbers that are no columns of a width.
func wrongColumns(width int) []int {
	return []int{-1, width, width + 1, 64, math.MaxInt, math.MinInt}
}

func TestRangeOf(t *testing.T) {
	x := col(0)
	for _, c := range []struct {
		e    impl.Expr
		want impl.Range
	}{
		// Constants on either side.
		{is(x, lit(5)), between(5, 5)}, {is(lit(5), x), between(5, 5)}, {is(x, lit(0)), between(0, 0)}, {less(x, lit(7)), between(-9999, 6)}, {less(lit(2), x), between(3, 9999)}, {less(x, lit(0)), between(-9999, -1)}, {less(lit(0), x), between(1, 9999)},
		// Numbers at the limits, where nothing may be left.
		{is(x, lit(9999)), between(9999, 9999)}, {is(lit(-9999), x), between(-9999, -9999)}, {less(x, lit(9999)), between(-9999, 9998)}, {less(lit(-9999), x), between(-9998, 9999)}, {less(x, lit(-9998)), between(-9999, -9999)}, {less(lit(9998), x), between(9999, 9999)},
		{less(x, lit(-9999)), between(-9999, -10000)}, {less(lit(9999), x), between(10000, 9999)}, {and(less(x, lit(-9999)), less(lit(9999), x)), between(10000, -10000)},
		// Constants that are null.
		{is(x, val(null)), between(1, 0)}, {is(val(null), x), between(1, 0)}, {less(x, val(null)), between(1, 0)}, {less(val(null), x), between(1, 0)}, {and(is(x, val(null)), is(x, lit(5))), between(5, 0)}, {and(is(x, lit(-5)), less(val(null), x)), between(1, -5)},
		{and(less(x, lit(7)), less(x, val(null))), between(1, 0)}, {and(less(val(null), x), less(lit(2), x)), between(3, 0)}, {and(less(x, val(null)), less(x, lit(-3))), between(1, -4)}, {and(is(x, val(null)), is(val(null), x)), between(1, 0)},
		// Several restrictions, some of which leave nothing.
		{and(less(lit(2), x), less(x, lit(7))), between(3, 6)}, {and(less(x, lit(7)), less(x, lit(5))), between(-9999, 4)}, {and(less(x, lit(5)), less(x, lit(7))), between(-9999, 4)}, {and(less(lit(5), x), less(lit(7), x)), between(8, 9999)}, {and(less(lit(7), x), less(lit(5), x)), between(8, 9999)},
		{and(is(x, lit(3)), is(x, lit(5))), between(5, 3)}, {and(is(lit(5), x), is(x, lit(5))), between(5, 5)}, {and(less(x, lit(3)), less(lit(5), x)), between(6, 2)}, {and(less(lit(4), x), less(x, lit(5))), between(5, 4)}, {and(is(x, lit(3)), less(x, lit(3))), between(3, 2)},
		{and(and(less(lit(1), x), less(x, lit(9))), and(less(lit(3), x), less(x, lit(8)))), between(4, 7)}, {and(less(lit(1), x), and(less(x, lit(9)), is(x, lit(4)))), between(4, 4)},
		// Other conjuncts, and other columns.
		{and(x, less(x, lit(7))), between(-9999, 6)}, {and(less(x, lit(7)), not(less(x, lit(3)))), between(-9999, 6)}, {and(or(is(x, lit(1)), is(x, lit(2))), less(lit(0), x)), between(1, 9999)}, {and(lit(0), is(x, lit(4))), between(4, 4)}, {and(val(null), is(x, lit(4))), between(4, 4)},
		{and(less(col(1), lit(3)), less(x, lit(7))), between(-9999, 6)}, {and(less(x, lit(7)), is(lit(3), col(1))), between(-9999, 6)}, {and(less(x, col(1)), less(lit(7), x)), between(8, 9999)}, {and(is(x, x), is(x, lit(1))), between(1, 1)}, {and(is(lit(3), lit(4)), is(x, lit(1))), between(1, 1)},
		{and(is(x, op(impl.Plus, lit(1), lit(2))), less(x, lit(7))), between(-9999, 6)}, {and(isNull(0), less(x, lit(7))), between(-9999, 6)}, {and(not(and(is(x, lit(1)), is(x, lit(2)))), less(x, lit(7))), between(-9999, 6)}, {and(op(impl.Minus, x, lit(3)), less(x, lit(7))), between(-9999, 6)},
	} {
		if got, ok := impl.RangeOf(c.e, 2, 0); !ok || got != c.want {
			t.Errorf("RangeOf(%v, 2, 0) = %v, %v, want %v", c.e, got, ok, c.want)
		}
		// The same with another column.
		e, _ := impl.Substitute(c.e, []impl.Expr{col(5), col(0)}, 6)
		if got, ok := impl.RangeOf(e, 6, 5); !ok || got != c.want {
			t.Errorf("RangeOf(%v, 6, 5) = %v, %v, want %v", e, got, ok, c.want)
		}
	}
}

func TestRangeOfWithoutARestriction(t *testing.T) {
	x := col(0)
	list := []impl.Expr{
		x, lit(1), val(null), not(less(x, lit(3))), not(and(is(x, lit(1)), is(x, lit(2)))), or(is(x, lit(1)), is(x, lit(1))), isNull(0), not(isNull(0)), is(x, x), less(x, x), is(x, col(1)), less(col(1), x), is(lit(1), lit(1)), less(lit(1), lit(2)), is(val(null), val(null)),
		is(col(1), lit(3)), less(lit(3), col(1)), less(col(1), val(null)), is(x, op(impl.Plus, lit(1), lit(2))), is(op(impl.Plus, x, lit(0)), lit(2)), less(op(impl.Times, lit(1), x), lit(2)), less(not(x), lit(1)), is(less(x, lit(3)), lit(1)),
		op(impl.Plus, x, lit(3)), op(impl.Minus, lit(3), x), op(impl.Times, x, lit(3)), or(x, lit(3)), and(x, lit(3)), and(lit(3), x), and(is(col(1), lit(3)), or(is(x, lit(1)), and(is(x, lit(2)), is(x, lit(2))))), op(impl.NullTest, is(x, lit(3))),
	}
	for _, e := range list {
		if got, ok := impl.RangeOf(e, 2, 0); ok || got != (impl.Range{}) {
			t.Errorf("RangeOf(%v, 2, 0) = %v, %v", e, got, ok)
		}
	}
}

func TestRangeOfInvalidArguments(t *testing.T) {
	refuses := func(e impl.Expr, width int, c int) {
		t.Helper()
		if got, ok := impl.RangeOf(e, width, c); ok || got != (impl.Range{}) {
			t.Errorf("RangeOf of an expression for the width %d and the column %d = %v, %v", width, c, got, ok)
		}
	}
	good := less(col(0), lit(3))
	for _, bad := range invalidExprs() {
		refuses(bad, 6, 0)
		refuses(and(good, bad), 6, 0)
		refuses(and(bad, good), 6, 0)
	}
	for _, width := range wrongWidths() {
		refuses(good, width, 0)
	}
	for width := 1; width <= impl.MaxWidth; width++ {
		refuses(and(good, less(col(width), lit(3))), width, 0)
		refuses(less(col(width), lit(3)), width, width)
		for _, c := range wrongColumns(width) {
			refuses(good, width, c)
			refuses(less(col(c), lit(3)), width, c)
		}
		if got, ok := impl.RangeOf(less(col(width-1), lit(3)), width, width-1); !ok || got != between(-9999, 2) {
			t.Errorf("RangeOf for the last column of the width %d = %v, %v", width, got, ok)
		}
	}
	refuses(is(col(0), lit(10000)), 1, 0)
	refuses(is(col(0), lit(-10000)), 1, 0)
	refuses(is(col(0), val(impl.Value{Null: true, N: 3})), 1, 0)
}

func TestRangeOfManyConjuncts(t *testing.T) {
	left, right := less(lit(0), col(0)), less(lit(0), col(0))
	for n := range impl.MaxLevels - 1 {
		left, right = and(left, less(col(0), lit(20-n))), and(less(col(0), lit(20-n)), right)
	}
	for _, e := range []impl.Expr{left, right} {
		if got, ok := impl.RangeOf(e, 1, 0); !ok || got != between(1, 13) {
			t.Errorf("RangeOf(%v, 1, 0) = %v, %v", e, got, ok)
		}
		if got, ok := impl.RangeOf(and(e, e), 1, 0); ok || got != (impl.Range{}) {
			t.Errorf("RangeOf of an expression with too many levels = %v, %v", got, ok)
		}
	}
}

// constant returns null or a number, often one near the others or a limit.
func (m *maker) constant() impl.Value {
	switch m.below(12) {
	case 0:
		return null
	case 1:
		return num([]int{9999, -9999, 9998, -9998}[m.below(4)])
	}
	return num(m.below(13) - 6)
}

// comparison returns the comparison of a column and a constant, in either order.
func (m *maker) comparison(c int) impl.Expr {
	kind := []int{impl.EqualTo, impl.LessThan, impl.LessThan}[m.below(3)]
	if m.below(2) == 0 {
		return op(kind, col(c), val(m.constant()))
	}
	return op(kind, val(m.constant()), col(c))
}

// restriction returns a condition with several conjuncts, many of which are comparisons of a column and a constant.
func (m *maker) restriction(width int, levels int) impl.Expr {
	switch {
	case levels > 0 && m.below(3) > 0:
		return and(m.restriction(width, levels-1), m.restriction(width, levels-1))
	case m.below(3) > 0:
		return m.comparison(m.below(width))
	}
	return m.expr(width, 2)
}

// slowRange returns RangeOf of a valid expression by the words of the document.
func slowRange(e impl.Expr, c int) (impl.Range, bool) {
	result, found := between(-9999, 9999), false
	for _, part := range impl.Conjuncts(e) {
		if part.Kind != impl.EqualTo && part.Kind != impl.LessThan {
			continue
		}
		a, b := part.Kids[0], part.Kids[1]
		var r impl.Range
		switch {
		case equal(a, col(c)) && b.Kind == impl.Constant && part.Kind == impl.LessThan:
			r = between(-9999, b.Val.N-1)
		case equal(b, col(c)) && a.Kind == impl.Constant && part.Kind == impl.LessThan:
			r = between(a.Val.N+1, 9999)
		case equal(a, col(c)) && b.Kind == impl.Constant:
			r = between(b.Val.N, b.Val.N)
		case equal(b, col(c)) && a.Kind == impl.Constant:
			r = between(a.Val.N, a.Val.N)
		default:
			continue
		}
		if a.Kind == impl.Constant && a.Val == null || b.Kind == impl.Constant && b.Val == null {
			r = between(1, 0)
		}
		result, found = between(max(result.Low, r.Low), min(result.High, r.High)), true
	}
	if !found {
		return impl.Range{}, false
	}
	return result, true
}

func TestP093RangesLoseNoRows(t *testing.T) {
	m := &maker{state: 93}
	found, kept := 0, 0
	for range 2000 {
		width := 1 + m.below(3)
		e, c := m.restriction(width, m.below(4)), m.below(width)
		r, ok := impl.RangeOf(e, width, c)
		if want, exists := slowRange(e, c); ok != exists || r != want {
			t.Fatalf("RangeOf(%v, %d, %d) = %v, %v, want %v, %v", e, width, c, r, ok, want, exists)
		}
		if !ok {
			continue
		}
		found++
		for range 30 {
			var values []impl.Value
			for range width {
				values = append(values, m.constant())
			}
			if !isTrue(t, e, values) {
				continue
			}
			if v := values[c]; v.Null || v.N < r.Low || v.N > r.High {
				t.Fatalf("RangeOf(%v, %d, %d) = %v, but the condition is true for %v", e, width, c, r, values)
			}
			kept++
		}
	}
	if found < 1000 || kept < 3000 {
		t.Errorf("only %d conditions restrict the column, only %d rows satisfy them", found, kept)
	}
}

// The comparisons alone are true for exactly the numbers of the range.
func TestRangesOfComparisonsHaveNoOtherNumbers(t *testing.T) {
	m := &maker{state: 930}
	for range 40 {
		e := m.comparison(0)
		for range m.below(3) {
			e = and(e, m.comparison(0))
		}
		r, ok := impl.RangeOf(e, 1, 0)
		for n := -9999; n <= 9999; n++ {
			if want := r.Low <= n && n <= r.High; !ok || isTrue(t, e, []impl.Value{num(n)}) != want {
				t.Fatalf("RangeOf(%v, 1, 0) = %v, %v, but the condition is %v for %d", e, r, ok, !want, n)
			}
		}
	}
}

// scanned returns ScanRange, and fails if there is no valid result.
func scanned(t *testing.T, x impl.Table, c int, r impl.Range) impl.Table {
	t.Helper()
	y, ok := impl.ScanRange(x, c, r)
	if !ok || !impl.ValidTable(y) || y.Width != x.Width {
		t.Fatalf("ScanRange(%v, %d, %v) = %v, %v", x, c, r, y, ok)
	}
	return y
}

func TestP094AnIndexScanReplacesAFilter(t *testing.T) {
	m := &maker{state: 94}
	some := 0
	for range 1500 {
		width := 1 + m.below(3)
		var list [][]impl.Value
		for range m.below(30) {
			var r []impl.Value
			for range width {
				r = append(r, m.constant())
			}
			list = append(list, r)
		}
		x := tableOf(t, width, list)
		e, c := m.restriction(width, m.below(3)), m.below(width)
		r, ok := impl.RangeOf(e, width, c)
		if !ok {
			continue
		}
		y := scanned(t, x, c, r)
		got, want := rowsOf(t, filter(e, scan(0)), []impl.Table{y}), rowsOf(t, filter(e, scan(0)), []impl.Table{x})
		if !equal(got, want) {
			t.Fatalf("the filter %v of ScanRange(%v, %d, %v) has the rows %v, want %v", e, x, c, r, got, want)
		}
		if len(want) > 0 && len(y.Rows) < len(list) {
			some++
		}
	}
	if some < 200 {
		t.Errorf("only %d scans are smaller than the table, but not empty", some)
	}
}

func TestIndexOf(t *testing.T) {
	x := table(t, 3, "null 5 0", "null null 0", "-9999 9999 0", "1 null null", "1 7 0", "2 5 0", "2 5 0", "3 -1 null", "9999 -9999 1")
	for c, want := range [][]int{{2, 3, 4, 5, 6, 7, 8}, {8, 7, 1, 5, 6, 4, 2}, {0, 1, 2, 4, 5, 6, 8}} {
		if got := impl.IndexOf(x, c); !equal(got, want) {
			t.Errorf("IndexOf(%v, %d) = %v, want %v", x, c, got, want)
		}
	}
	if got := impl.IndexOf(table(t, 2, "1 null", "2 null", "3 null"), 1); len(got) != 0 {
		t.Errorf("IndexOf of a column with nulls only = %v", got)
	}
	if got := impl.IndexOf(impl.Table{Width: 6}, 5); len(got) != 0 {
		t.Errorf("IndexOf of a table without rows = %v", got)
	}
	most := numbered(0, impl.MaxRows)
	var want []int
	for i := range most {
		most[i] = append(most[i], num(-(i / 2)))
		want = append(want, (impl.MaxRows-1-i)^1)
	}
	if got := impl.IndexOf(tableOf(t, 2, most), 1); !equal(got, want) {
		t.Errorf("IndexOf of MaxRows rows = %v, want %v", got, want)
	}
}

func TestIndexesAndScansOfInvalidArguments(t *testing.T) {
	refuses := func(x impl.Table, c int) {
		t.Helper()
		if got := impl.IndexOf(x, c); got != nil {
			t.Errorf("IndexOf(%v, %d) = %v", x, c, got)
		}
		for _, r := range []impl.Range{{}, between(-9999, 9999), between(1, 0), between(math.MinInt, math.MaxInt)} {
			if y, ok := impl.ScanRange(x, c, r); ok || !equal(y, impl.Table{}) {
				t.Errorf("ScanRange(%v, %d, %v) = %v, %v", x, c, r, y, ok)
			}
		}
	}
	for _, x := range invalidTables() {
		refuses(x, 0)
		refuses(x, x.Width-1)
	}
	for width := 1; width <= impl.MaxWidth; width++ {
		for _, x := range someTables(t, width)[:3] {
			for _, c := range wrongColumns(width) {
				refuses(x, c)
			}
		}
	}
}

func TestP095AnIndexHasAllRowsWithNumbersInOrder(t *testing.T) {
	for width := 1; width <= impl.MaxWidth; width++ {
		for _, x := range someTables(t, width) {
			for c := range width {
				got := impl.IndexOf(x, c)
				for i, r := range x.Rows {
					if slices.Contains(got, i) == r[c].Null {
						t.Fatalf("IndexOf(%v, %d) = %v, but row %d is %v", x, c, got, i, r)
					}
				}
				for i := 1; i < len(got); i++ {
					a, b := x.Rows[got[i-1]][c].N, x.Rows[got[i]][c].N
					if a > b || a == b && got[i-1] >= got[i] {
						t.Fatalf("IndexOf(%v, %d) = %v", x, c, got)
					}
				}
			}
		}
	}
}

func TestScanRange(t *testing.T) {
	x := table(t, 2, "null 5", "-9999 1", "0 2", "0 2", "1 null", "3 0", "3 0", "9999 4")
	for _, c := range []struct {
		col  int
		r    impl.Range
		want []string
	}{
		{0, between(-9999, 9999), []string{"-9999 1", "0 2", "0 2", "1 null", "3 0", "3 0", "9999 4"}}, {0, between(math.MinInt, math.MaxInt), []string{"-9999 1", "0 2", "0 2", "1 null", "3 0", "3 0", "9999 4"}},
		{0, between(0, 1), []string{"0 2", "0 2", "1 null"}}, {0, between(0, 0), []string{"0 2", "0 2"}}, {0, impl.Range{}, []string{"0 2", "0 2"}}, {0, between(1, 2), []string{"1 null"}}, {0, between(-9999, -9999), []string{"-9999 1"}}, {0, between(9999, 20000), []string{"9999 4"}}, {0, between(math.MinInt, -1), []string{"-9999 1"}},
		{1, between(0, 1), []string{"-9999 1", "3 0", "3 0"}}, {1, between(0, 0), []string{"3 0", "3 0"}}, {1, between(4, math.MaxInt), []string{"null 5", "9999 4"}}, {1, between(3, 3), nil},
		// Empty ranges, and ones beside all numbers.
		{0, between(1, 0), nil}, {0, between(3, -9999), nil}, {0, between(9999, -9999), nil}, {0, between(math.MaxInt, math.MinInt), nil}, {0, between(2, 2), nil}, {0, between(10000, math.MaxInt), nil}, {0, between(-9999, -10000), nil}, {1, between(10000, 9999), nil},
	} {
		if got := scanned(t, x, c.col, c.r); !equal(got, impl.Table{Width: 2, Rows: rows(c.want...)}) {
			t.Errorf("ScanRange(%v, %d, %v) = %v, want %q", x, c.col, c.r, got, c.want)
		}
	}
	if got := scanned(t, impl.Table{Width: 6}, 5, between(-9999, 9999)); len(got.Rows) != 0 {
		t.Errorf("ScanRange of a table without rows = %v", got)
	}
	most := tableOf(t, 1, numbered(0, impl.MaxRows))
	if got := scanned(t, most, 0, between(0, impl.MaxRows)); !equal(got, most) {
		t.Errorf("ScanRange of all of MaxRows rows = %v", got)
	}
}

func TestP096AdjacentRangesDivideAnIndex(t *testing.T) {
	m := &maker{state: 96}
	divided := 0
	for width := 1; width <= impl.MaxWidth; width++ {
		for _, x := range someTables(t, width) {
			for range 60 {
				ends := []int{m.below(9) - 5, m.below(9) - 5, m.below(9) - 5}
				if m.below(4) == 0 {
					ends = []int{-9999, m.below(5) - 2, 9999}
				}
				slices.Sort(ends)
				c := m.below(width)
				first, second := scanned(t, x, c, between(ends[0], ends[1])), scanned(t, x, c, between(ends[1]+1, ends[2]))
				both := scanned(t, x, c, between(ends[0], ends[2]))
				if u, ok := impl.UnionAll(first, second); !ok || !equal(u, both) {
					t.Fatalf("ScanRange of the column %d of %v, divided after %d of %v, = %v and %v, want %v", c, x, ends[1], ends, first, second, both)
				}
				var want [][]impl.Value
				for _, r := range x.Rows {
					if !r[c].Null && ends[0] <= r[c].N && r[c].N <= ends[2] {
						want = append(want, r)
					}
				}
				if !equal(both.Rows, want) {
					t.Fatalf("ScanRange(%v, %d) from %d to %d = %v", x, c, ends[0], ends[2], both)
				}
				if len(first.Rows) > 0 && len(second.Rows) > 0 {
					divided++
				}
			}
		}
	}
	if divided < 300 {
		t.Errorf("only %d ranges are divided", divided)
	}
}
