package tests

import (
	"slices"
	"testing"

	"loop.example/queryoptimizer/impl"
)

func TestEstimateRowsOfFilters(t *testing.T) {
	x, other := scan(0), distinct(scan(0))
	is := func(n int, v int) impl.Expr { return op(impl.EqualTo, col(n), lit(v)) }
	less := op(impl.LessThan, col(1), lit(3))
	// With 8 rows that have one of 4 values in the first column, 200 of 1000 rows have a certain one.
	stats := []impl.Stats{statistics(10, 4, 2, 5, 0), full(7), statistics(20, 2, 0, 0, 20)}
	for _, c := range []struct {
		e                       impl.Expr
		ofScan, ofOther, ofThis int
	}{
		{is(0, 3), 2, 1, 10}, {is(1, 3), 2, 1, 0}, {op(impl.EqualTo, lit(3), col(0)), 1, 1, 2}, {equals(0, 1), 1, 1, 2}, {less, 3, 3, 6},
		{isNull(0), 2, 3, 0}, {isNull(1), 0, 3, 20}, {not(isNull(0)), 8, 3, 20}, {not(is(0, 3)), 8, 3, 10}, {not(lit(1)), 0, 3, 0},
		{col(0), 5, 3, 10}, {op(impl.Plus, col(0), col(1)), 5, 3, 10}, {op(impl.Minus, col(0), lit(1)), 5, 3, 10}, {op(impl.Times, lit(0), lit(0)), 5, 3, 10},
		{lit(1), 10, 10, 20}, {lit(0), 0, 0, 0}, {val(null), 0, 0, 0}, {and(lit(1), lit(5)), 10, 10, 20}, {and(val(null), lit(1)), 0, 0, 0},
		{and(is(0, 3), lit(1)), 2, 1, 10}, {and(less, lit(1)), 3, 3, 6}, {and(less, isNull(0)), 0, 1, 0}, {and(less, less), 1, 1, 2}, {and(is(0, 3), is(1, 3)), 0, 0, 0},
		{op(impl.OrExpr, lit(1), lit(1)), 10, 3, 20}, {op(impl.OrExpr, is(0, 3), less), 4, 3, 13}, {op(impl.OrExpr, lit(0), lit(0)), 0, 3, 0},
	} {
		a, b, third := impl.EstimateRows(filter(c.e, x), stats), impl.EstimateRows(filter(c.e, other), stats), impl.EstimateRows(filter(c.e, scan(2)), stats)
		if a != c.ofScan || b != c.ofOther || third != c.ofThis {
			t.Errorf("EstimateRows of filters with %v = %d, %d and %d, want %d, %d and %d", c.e, a, b, third, c.ofScan, c.ofOther, c.ofThis)
		}
	}
	// Only the filter of a scan uses the statistics.
	for _, kid := range []impl.Plan{filter(lit(1), x), project(x, col(0), col(1)), union(x, filter(lit(0), x)), group(x, 0), leftJoin(lit(0), scan(0), scan(1)), join(lit(1), x, group(x))} {
		if n := estimate(t, kid, stats); n != 10 {
			t.Fatalf("EstimateRows(%v) = %d", kid, n)
		}
		if a, b := impl.EstimateRows(filter(is(0, 3), kid), stats), impl.EstimateRows(filter(not(isNull(0)), kid), stats); a != 1 || b != 3 {
			t.Errorf("EstimateRows of filters of %v = %d and %d", kid, a, b)
		}
	}
}

func TestEstimateRows(t *testing.T) {
	x, y, empty := scan(0), scan(1), scan(2)
	less := op(impl.LessThan, col(0), col(1))
	stats := []impl.Stats{full(10), full(7), full(0), statistics(1, 0, 1)}
	for _, c := range []struct {
		p    impl.Plan
		want int
	}{
		{x, 10}, {y, 7}, {empty, 0}, {scan(3), 1}, {project(x, lit(1), col(0)), 10}, {distinct(x), 10}, {group(x, 0), 10}, {group(x), 1}, {group(empty), 0}, {group(empty, 0), 0}, {group(scan(3)), 1},
		{group(filter(lit(0), x)), 0}, {distinct(filter(col(0), x)), 5}, {project(filter(col(0), x), lit(1)), 5}, {group(filter(col(0), x), 0), 5},
		{union(x, y), 17}, {union(empty, y), 7}, {union(x, filter(col(0), y)), 13}, {union(distinct(x), distinct(x)), 20},
		{join(lit(1), x, y), 70}, {join(equals(0, 1), x, y), 7}, {join(less, x, y), 23}, {join(lit(0), x, y), 0}, {join(val(null), x, y), 0}, {join(lit(1), x, empty), 0}, {join(lit(1), empty, x), 0},
		{join(op(impl.EqualTo, col(0), lit(1)), x, y), 7}, {join(isNull(0), x, y), 23}, {join(not(isNull(0)), x, y), 23}, {join(op(impl.OrExpr, lit(1), lit(1)), x, y), 23}, {join(col(0), x, y), 23}, {join(op(impl.Plus, lit(0), lit(0)), x, y), 23},
		{join(and(equals(0, 1), less), x, y), 2}, {join(and(less, and(lit(2), less)), x, y), 7}, {join(and(lit(1), lit(1)), x, y), 70},
		{leftJoin(lit(1), x, y), 70}, {leftJoin(equals(0, 1), x, y), 10}, {leftJoin(equals(0, 1), y, x), 7}, {leftJoin(less, x, y), 23}, {leftJoin(lit(0), x, y), 10}, {leftJoin(lit(1), x, empty), 10}, {leftJoin(lit(1), empty, x), 0},
		{leftJoin(lit(1), scan(3), y), 7}, {leftJoin(equals(0, 1), x, union(x, x)), 20},
	} {
		if got := impl.EstimateRows(c.p, stats); got != c.want {
			t.Errorf("EstimateRows(%v) = %d, want %d", c.p, got, c.want)
		}
	}
}

// manyRows returns plans of the width 1 whose estimates are 960000000 and MaxBound, for the tables 0 with MaxRows rows and 3 with 15 rows.
func manyRows() (impl.Plan, impl.Plan) {
	pair := join(lit(1), scan(0), scan(0))
	cube := join(lit(1), pair, scan(0))
	return project(join(lit(1), cube, scan(3)), col(0)), project(join(lit(1), pair, pair), col(0))
}

func TestEstimatesAtMaxBound(t *testing.T) {
	less := op(impl.LessThan, col(0), col(1))
	stats := []impl.Stats{full(impl.MaxRows), full(0), full(1), full(15)}
	most, many := manyRows()
	x := scan(0)
	for _, c := range []struct {
		p    impl.Plan
		want int
	}{
		{most, 960000000}, {many, impl.MaxBound}, {join(lit(1), most, scan(2)), 960000000}, {join(equals(0, 1), most, scan(2)), 96000000}, {join(less, most, scan(2)), 319680000},
		{join(lit(1), many, many), impl.MaxBound}, {join(equals(0, 1), many, many), impl.MaxBound / 10}, {join(less, many, many), 333000000}, {join(lit(0), many, many), 0}, {join(equals(0, 1), most, x), impl.MaxBound / 10},
		{leftJoin(lit(1), many, many), impl.MaxBound}, {leftJoin(equals(0, 1), many, many), impl.MaxBound}, {leftJoin(equals(0, 1), x, many), impl.MaxBound / 10}, {leftJoin(lit(1), many, scan(1)), impl.MaxBound}, {leftJoin(equals(0, 1), most, x), 960000000},
		{union(many, many), impl.MaxBound}, {union(many, scan(1)), impl.MaxBound}, {union(most, x), 960000400}, {union(most, most), impl.MaxBound}, {union(many, scan(2)), impl.MaxBound},
		{filter(lit(1), many), impl.MaxBound}, {filter(col(0), many), 333000000}, {filter(isNull(0), many), 333000000}, {filter(op(impl.EqualTo, col(0), lit(1)), many), impl.MaxBound / 10}, {group(many, 0), impl.MaxBound}, {group(many), 1}, {distinct(many), impl.MaxBound},
	} {
		if got := impl.EstimateRows(c.p, stats); got != c.want {
			t.Errorf("EstimateRows(%v) = %d, want %d", c.p, got, c.want)
		}
	}
}

func TestEstimatesOfInvalidArguments(t *testing.T) {
	nothing := func(p impl.Plan, stats []impl.Stats) bool {
		q, s := impl.Improve(p, stats)
		return impl.EstimateRows(p, stats) == -1 && impl.EstimateCost(p, stats) == -1 && impl.CheapestPlan([]impl.Plan{p}, stats) == -1 && equal(q, impl.Plan{}) && equal(s, impl.Step{})
	}
	good := []impl.Stats{statistics(4, 1, 1, 2, 2), full(3)}
	for i, p := range invalidPlans() {
		if !nothing(p, good) {
			t.Errorf("the invalid plan %d has estimates", i)
		}
	}
	// No plan has estimates if any statistics are invalid, whether or not it scans their table.
	plans := []impl.Plan{scan(0), scan(1), distinct(distinct(scan(0))), filter(lit(1), filter(lit(1), scan(1)))}
	for _, bad := range invalidStats() {
		for _, stats := range [][]impl.Stats{{bad}, {bad, good[1]}, {good[0], bad}, {good[0], good[1], bad}, {good[0], bad, good[1]}} {
			for _, p := range plans {
				if !nothing(p, stats) {
					t.Errorf("%v has estimates for %v", p, stats)
				}
			}
		}
	}
	for _, p := range plans {
		for _, stats := range [][]impl.Stats{nil, {}, slices.Repeat(good[:1], impl.MaxTables+1)} {
			if !nothing(p, stats) {
				t.Errorf("%v has estimates for %d statistics", p, len(stats))
			}
		}
		if nothing(p, good) || nothing(p, slices.Repeat(good[:1], impl.MaxTables)) {
			t.Errorf("%v has no estimates", p)
		}
	}
	if !nothing(scan(2), good) || !nothing(filter(col(1), scan(1)), good) || nothing(filter(col(1), scan(0)), good) {
		t.Error("the widths of the tables are not the numbers of elements of Distinct")
	}
}

func TestP055EstimatesAreBounded(t *testing.T) {
	less := 0
	for _, c := range estimatedPlans(55, 2000) {
		n, bound := estimate(t, c.p, c.stats), impl.RowBound(c.p, c.widths, rowsIn(c.stats))
		if n > bound {
			t.Fatalf("EstimateRows(%v, %v) = %d, but RowBound is %d", c.p, c.stats, n, bound)
		}
		if n < bound && n > 0 {
			less++
		}
		if want := slowEstimate(c.p, c.stats); n != want {
			t.Fatalf("EstimateRows(%v, %v) = %d, want %d", c.p, c.stats, n, want)
		}
	}
	if less < 200 {
		t.Errorf("only %d estimates are positive and less than the bound", less)
	}
}

func TestP056ScansAreEstimatedExactly(t *testing.T) {
	m := &maker{state: 56}
	for range 300 {
		db := m.db(t, 12)
		stats := statsFor(db)
		for i, x := range db {
			if n := impl.EstimateRows(scan(i), stats); n != len(x.Rows) {
				t.Fatalf("EstimateRows of a scan of %v = %d", x, n)
			}
			for k, y := range db {
				if n := impl.EstimateRows(union(scan(i), scan(k)), stats); x.Width == y.Width && n != len(x.Rows)+len(y.Rows) {
					t.Fatalf("EstimateRows of the union of %v and %v = %d", x, y, n)
				}
			}
		}
	}
	if n := impl.EstimateRows(union(scan(0), scan(1)), []impl.Stats{full(400), full(400)}); n != 800 {
		t.Errorf("EstimateRows of a union with more than MaxRows rows = %d", n)
	}
}

func TestP145FiltersDoNotIncreaseEstimates(t *testing.T) {
	m := &maker{state: 145}
	for _, c := range estimatedPlans(145, 1000) {
		n := estimate(t, c.p, c.stats)
		e := m.predicate(impl.PlanWidth(c.p, c.widths), 3)
		if impl.PlanWidth(filter(e, c.p), c.widths) == 0 {
			continue
		}
		if filtered := estimate(t, filter(e, c.p), c.stats); filtered > n {
			t.Fatalf("EstimateRows(%v) = %d, but of a filter with %v %d for %v", c.p, n, e, filtered, c.stats)
		}
		if different := estimate(t, distinct(c.p), c.stats); different != n {
			t.Fatalf("EstimateRows(%v) = %d, but of its different rows %d for %v", c.p, n, different, c.stats)
		}
	}
	for i := range 3 {
		stats := []impl.Stats{full(impl.MaxRows), statistics(6, 0, 6, 3, 3), statistics(0, 0, 0)}
		for _, e := range []impl.Expr{lit(1), op(impl.EqualTo, col(0), lit(1)), isNull(0), not(isNull(0)), op(impl.OrExpr, lit(1), isNull(0))} {
			if n := estimate(t, filter(e, scan(i)), stats); n > stats[i].Rows {
				t.Errorf("EstimateRows of a filter with %v of %v = %d", e, stats[i], n)
			}
		}
	}
}
