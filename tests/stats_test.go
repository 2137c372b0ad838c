package tests

import (
	"slices"
	"testing"

	"loop.example/queryoptimizer/impl"
)

func TestStatsOf(t *testing.T) {
	for _, c := range []struct {
		x    impl.Table
		want impl.Stats
	}{
		{table(t, 2, "1 null", "1 4", "2 4", "3 4"), statistics(4, 3, 0, 1, 1)},
		{table(t, 1), statistics(0, 0, 0)},
		{table(t, 3), statistics(0, 0, 0, 0, 0, 0, 0)},
		{table(t, 1, "null"), statistics(1, 0, 1)},
		{table(t, 2, "null null", "null null", "null 1"), statistics(3, 0, 3, 1, 2)},
		{table(t, 1, "0", "null", "0"), statistics(3, 1, 1)},
		{table(t, 1, "-5", "5", "-9999", "9999", "0"), statistics(5, 5, 0)},
		{table(t, 2, "1 2", "1 2", "1 2"), statistics(3, 1, 0, 1, 0)},
		{table(t, 2, "1 7", "2 8", "3 7", "4 8", "5 null", "6 7"), statistics(6, 6, 0, 2, 1)},
		{table(t, 6, "1 1 1 1 1 1", "1 2 null 1 1 0", "2 1 null 1 1 null"), statistics(3, 2, 0, 2, 0, 1, 2, 1, 0, 1, 0, 2, 1)},
		{tableOf(t, 1, numbered(-200, impl.MaxRows)), full(impl.MaxRows)},
	} {
		if got := impl.StatsOf(c.x); !equal(got, c.want) {
			t.Errorf("StatsOf(%v) = %v, want %v", c.x, got, c.want)
		}
	}
	for _, x := range invalidTables() {
		if got := impl.StatsOf(x); !equal(got, impl.Stats{}) {
			t.Errorf("StatsOf(%v) = %v", x, got)
		}
	}
}

func TestP053StatisticsCountValues(t *testing.T) {
	m := &maker{state: 53}
	for range 300 {
		width := 1 + m.below(impl.MaxWidth)
		x := tableOf(t, width, m.rows(width, m.below(12)))
		s := impl.StatsOf(x)
		if s.Rows != len(x.Rows) || len(s.Distinct) != width || len(s.Nulls) != width {
			t.Fatalf("StatsOf(%v) = %v", x, s)
		}
		for w := -1; w <= impl.MaxWidth+1; w++ {
			if impl.ValidStats(s, w) != (w == width) {
				t.Fatalf("ValidStats(%v, %d) is %v", s, w, w != width)
			}
		}
		for c := range width {
			values := tableOf(t, 1, picked(x.Rows, []int{c}))
			different, _ := impl.DistinctRows(values)
			if s.Nulls[c] != impl.CountRow(values, row("null")) || s.Distinct[c]+min(s.Nulls[c], 1) != len(different.Rows) {
				t.Fatalf("StatsOf(%v) = %v, but the column %d has the values %v", x, s, c, different)
			}
		}
	}
}

func TestValidStats(t *testing.T) {
	wide := statistics(9, slices.Repeat([]int{4, 5}, impl.MaxWidth)...)
	for _, c := range []struct {
		s     impl.Stats
		width int
		want  bool
	}{
		{statistics(4, 2, 1), 1, true}, {statistics(4, 3, 1), 1, true}, {statistics(4, 0, 1), 1, true}, {statistics(4, 4, 0), 1, true}, {statistics(4, 0, 4), 1, true}, {statistics(4, 0, 0), 1, true},
		{statistics(0, 0, 0), 1, true}, {statistics(400, 400, 0), 1, true}, {statistics(400, 0, 400), 1, true}, {statistics(400, 399, 1), 1, true}, {statistics(1, 1, 0), 1, true},
		{statistics(4, 2, 1, 4, 0), 2, true}, {statistics(4, 2, 1, 4, 0), 1, false}, {statistics(4, 2, 1, 4, 0), 3, false}, {statistics(4, 2, 1), 0, false}, {statistics(4, 2, 1), 2, false}, {statistics(4, 2, 1), -1, false},
		{wide, impl.MaxWidth, true}, {wide, impl.MaxWidth - 1, false}, {wide, impl.MaxWidth + 1, false}, {impl.Stats{}, 0, false}, {impl.Stats{}, 1, false},
		{impl.Stats{Rows: 4, Distinct: []int{1}, Nulls: []int{1, 1}}, 2, false}, {impl.Stats{Rows: 4, Distinct: []int{1, 1}, Nulls: []int{1}}, 1, false},
		{impl.Stats{Rows: 4, Distinct: []int{1, 1}, Nulls: []int{1}}, 2, false}, {impl.Stats{Rows: 4, Distinct: []int{1}, Nulls: []int{1, 1}}, 1, false},
	} {
		if got := impl.ValidStats(c.s, c.width); got != c.want {
			t.Errorf("ValidStats(%v, %d) = %v", c.s, c.width, got)
		}
	}
	for _, s := range invalidStats() {
		if impl.ValidStats(s, len(s.Distinct)) || impl.ValidStats(s, len(s.Nulls)) {
			t.Errorf("ValidStats(%v) is true", s)
		}
	}
}

func TestSelectivity(t *testing.T) {
	either := func(e impl.Expr, f impl.Expr) impl.Expr { return op(impl.OrExpr, e, f) }
	is := func(n int, v int) impl.Expr { return op(impl.EqualTo, col(n), lit(v)) }
	less := op(impl.LessThan, col(0), lit(3))
	sum := op(impl.Plus, col(0), lit(1))
	s := statistics(7, 3, 1, 0, 7, 7, 0, 0, 2)
	for _, c := range []struct {
		e    impl.Expr
		want int
	}{
		{lit(1), 1000}, {lit(-9999), 1000}, {lit(0), 0}, {val(null), 0},
		{not(lit(1)), 0}, {not(lit(0)), 1000}, {not(val(null)), 1000}, {not(col(0)), 500}, {not(less), 667}, {not(is(0, 4)), 715},
		{col(0), 500}, {col(3), 500}, {sum, 500}, {op(impl.Minus, lit(1), lit(1)), 500}, {op(impl.Times, lit(0), val(null)), 500},
		// 6000/21, 0 different values, 7000/49.
		{is(0, 4), 285}, {is(0, 0), 285}, {is(0, -9999), 285}, {is(1, 4), 0}, {is(2, 4), 142}, {is(3, 4), 0},
		{op(impl.EqualTo, lit(4), col(0)), 100}, {op(impl.EqualTo, col(0), val(null)), 100}, {op(impl.EqualTo, col(1), val(null)), 100}, {op(impl.EqualTo, val(null), col(0)), 100},
		{equals(0, 1), 100}, {equals(0, 0), 100}, {op(impl.EqualTo, lit(1), lit(2)), 100}, {op(impl.EqualTo, sum, lit(2)), 100}, {op(impl.EqualTo, col(0), sum), 100}, {op(impl.EqualTo, not(col(0)), lit(2)), 100},
		{less, 333}, {op(impl.LessThan, lit(1), lit(2)), 333}, {op(impl.LessThan, val(null), col(1)), 333},
		// 1000/7, 7000/7, 0, 2000/7.
		{isNull(0), 142}, {isNull(1), 1000}, {isNull(2), 0}, {isNull(3), 285}, {op(impl.NullTest, val(null)), 0}, {op(impl.NullTest, lit(1)), 0}, {op(impl.NullTest, sum), 0}, {op(impl.NullTest, isNull(1)), 0},
		// 40.47, and 285+142-40.
		{and(is(0, 4), isNull(0)), 40}, {either(is(0, 4), isNull(0)), 387}, {and(less, less), 110}, {either(less, less), 556}, {and(less, lit(1)), 333}, {and(lit(0), less), 0}, {either(lit(1), less), 1000}, {either(val(null), less), 333},
		{and(lit(1), lit(2)), 1000}, {either(lit(1), lit(2)), 1000}, {either(lit(0), val(null)), 0}, {and(and(less, less), less), 36}, {either(either(less, less), not(less)), 853}, {not(and(is(2, 1), col(0))), 929}, {not(either(is(2, 1), col(0))), 429},
	} {
		if got := impl.Selectivity(c.e, s); got != c.want {
			t.Errorf("Selectivity(%v) = %d, want %d", c.e, got, c.want)
		}
	}
	for _, c := range []struct {
		s              impl.Stats
		isFour, isNull int
	}{
		{statistics(0, 0, 0), 0, 0}, {statistics(4, 0, 0), 0, 0}, {statistics(4, 0, 4), 0, 1000}, {statistics(4, 0, 3), 0, 750}, {statistics(4, 1, 3), 250, 750}, {statistics(4, 1, 0), 1000, 0}, {full(1), 1000, 0},
		{full(400), 2, 0}, {statistics(400, 1, 0), 1000, 0}, {statistics(400, 399, 1), 2, 2}, {statistics(400, 1, 399), 2, 997}, {statistics(400, 0, 400), 0, 1000}, {full(3), 333, 0}, {statistics(3, 2, 1), 333, 333}, {statistics(3, 1, 1), 666, 333},
	} {
		if a, b := impl.Selectivity(is(0, 4), c.s), impl.Selectivity(isNull(0), c.s); a != c.isFour || b != c.isNull {
			t.Errorf("Selectivity of an equality is %d, of a null test %d, want %d and %d, for %v", a, b, c.isFour, c.isNull, c.s)
		}
	}
}

func TestSelectivityOfInvalidArguments(t *testing.T) {
	for _, s := range invalidStats() {
		for _, e := range []impl.Expr{lit(1), col(0), op(impl.EqualTo, col(0), lit(1)), isNull(0)} {
			if got := impl.Selectivity(e, s); got != -1 {
				t.Errorf("Selectivity(%v, %v) = %d", e, s, got)
			}
		}
	}
	wide := statistics(4, slices.Repeat([]int{1, 1}, impl.MaxWidth)...)
	for i, e := range invalidExprs() {
		for _, s := range []impl.Stats{full(4), full(0), wide} {
			if got := impl.Selectivity(e, s); got != -1 {
				t.Errorf("Selectivity of the invalid expression %d for %v = %d", i, s, got)
			}
		}
	}
	for width := 1; width <= impl.MaxWidth; width++ {
		s := statistics(4, slices.Repeat([]int{1, 1}, width)...)
		for c := range impl.MaxWidth + 1 {
			want := -1
			if c < width {
				want = 250
			}
			if got := impl.Selectivity(isNull(c), s); got != want {
				t.Errorf("Selectivity of the null test of the column %d for the width %d = %d", c, width, got)
			}
		}
	}
	if got := impl.Selectivity(nested(impl.MaxLevels, col(0)), full(4)); got != 500 {
		t.Errorf("Selectivity of an expression with MaxLevels levels = %d", got)
	}
}

func TestP054SelectivitiesArePermilles(t *testing.T) {
	m := &maker{state: 54}
	for range 3000 {
		width := 1 + m.below(4)
		s := m.stats(width)
		e, f := m.predicate(width, 3), m.predicate(width, 3)
		a, b, both, one := impl.Selectivity(e, s), impl.Selectivity(f, s), impl.Selectivity(and(e, f), s), impl.Selectivity(op(impl.OrExpr, e, f), s)
		for _, n := range []int{a, b, both, one} {
			if n < 0 || n > 1000 {
				t.Fatalf("Selectivity of %v, %v, their conjunction and disjunction is %d, %d, %d, %d for %v", e, f, a, b, both, one, s)
			}
		}
		if both > a || both > b || one < a || one < b || both+one != a+b {
			t.Fatalf("Selectivity of %v, %v, their conjunction and disjunction is %d, %d, %d, %d for %v", e, f, a, b, both, one, s)
		}
		if rest := impl.Selectivity(not(e), s); rest != 1000-a {
			t.Fatalf("Selectivity of %v is %d, of its negation %d for %v", e, a, rest, s)
		}
		if want := slowSelectivity(e, s); a != want {
			t.Fatalf("Selectivity(%v, %v) = %d, want %d", e, s, a, want)
		}
	}
}
