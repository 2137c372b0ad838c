package tests

import (
	"slices"
	"testing"

	"loop.example/queryoptimizer/impl"
)

func TestPlanCost(t *testing.T) {
	x, y := scan(0), scan(1)
	db := []impl.Table{table(t, 2, "null 1", "1 null", "1 2", "1 2", "3 1"), table(t, 1, "null", "1", "1", "4"), {Width: 1}}
	for _, c := range []struct {
		p    impl.Plan
		want int
	}{
		{x, 5}, {y, 4}, {scan(2), 0}, {filter(op(impl.EqualTo, col(0), lit(1)), x), 5 + 3}, {filter(lit(0), x), 5}, {filter(col(1), filter(col(0), x)), 5 + 4 + 3},
		{project(x, lit(1)), 5 + 5}, {project(scan(2), lit(1)), 0}, {distinct(x), 5 + 4}, {group(x, 0), 5 + 3}, {group(x), 5 + 1}, {group(scan(2)), 0}, {union(x, x), 5 + 5 + 10}, {union(y, scan(2)), 4 + 4},
		{join(equals(0, 2), x, y), 5 + 4 + 6}, {join(lit(1), x, y), 5 + 4 + 20}, {join(lit(1), x, scan(2)), 5}, {leftJoin(equals(0, 2), x, y), 5 + 4 + 8}, {leftJoin(lit(1), x, scan(2)), 5 + 5}, {leftJoin(lit(1), scan(2), x), 5},
		{distinct(union(project(x, col(0)), filter(isNull(0), y))), 5 + 5 + 4 + 1 + 6 + 3},
	} {
		if got := impl.PlanCost(c.p, db); got != c.want {
			t.Errorf("PlanCost(%v) = %d, want %d", c.p, got, c.want)
		}
	}
}

func TestPlanCostOfPartsWithTooManyRows(t *testing.T) {
	db := []impl.Table{tableOf(t, 1, numbered(1, 20)), tableOf(t, 1, numbered(1, 21)), tableOf(t, 1, numbered(1, impl.MaxRows))}
	for _, c := range []struct {
		p    impl.Plan
		want int
	}{
		{join(lit(1), scan(0), scan(0)), 20 + 20 + 400}, {join(lit(1), scan(0), scan(1)), 20 + 21}, {leftJoin(lit(1), scan(1), scan(0)), 21 + 20}, {distinct(join(lit(1), scan(0), scan(1))), 20 + 21}, {filter(equals(0, 1), join(lit(1), scan(0), scan(1))), 20 + 21},
		{union(scan(2), scan(0)), 420}, {union(union(scan(2), scan(0)), scan(1)), 420 + 21 + 21}, {group(union(scan(2), scan(2))), 800}, {union(scan(2), filter(lit(0), scan(0))), 400 + 20 + 400},
	} {
		if got := impl.PlanCost(c.p, db); got != c.want {
			t.Errorf("PlanCost(%v) = %d, want %d", c.p, got, c.want)
		}
	}
}

func TestPlanCostOfInvalidArguments(t *testing.T) {
	good := table(t, 1, "1", "2")
	db := []impl.Table{table(t, 2, "1 2"), good}
	for i, p := range invalidPlans() {
		if got := impl.PlanCost(p, db); got != -1 {
			t.Errorf("PlanCost of the invalid plan %d = %d", i, got)
		}
	}
	for _, p := range basicPlans() {
		if got := impl.PlanCost(p, db); got < 1 {
			t.Errorf("PlanCost(%v) = %d", p, got)
		}
	}
	for _, bad := range invalidTables() {
		for _, db := range [][]impl.Table{{bad}, {bad, good}, {good, bad}, {good, good, good, bad}} {
			if got := impl.PlanCost(scan(0), db); got != -1 {
				t.Errorf("PlanCost for the tables %v = %d", db, got)
			}
		}
	}
	for _, db := range [][]impl.Table{nil, {}, slices.Repeat([]impl.Table{good}, impl.MaxTables+1)} {
		if got := impl.PlanCost(scan(0), db); got != -1 {
			t.Errorf("PlanCost for %d tables = %d", len(db), got)
		}
	}
	if got := impl.PlanCost(scan(3), slices.Repeat([]impl.Table{good}, impl.MaxTables)); got != 2 {
		t.Errorf("PlanCost for MaxTables tables = %d", got)
	}
}

func TestP057CostsAddUp(t *testing.T) {
	for _, c := range somePlans(t, 57, 500) {
		want := len(rowsOf(t, c.p, c.db))
		for _, kid := range c.p.Kids {
			want += impl.PlanCost(kid, c.db)
		}
		if got := impl.PlanCost(c.p, c.db); got != want {
			t.Fatalf("PlanCost(%v, %v) = %d, want %d", c.p, c.db, got, want)
		}
	}
}

func TestP058MovingAFilterDownIsCheap(t *testing.T) {
	m := &maker{state: 58}
	var moved [2]int
	somePairs(t, 58, func(p impl.Plan, q impl.Plan, e impl.Expr, c somePlan) {
		width := impl.PlanWidth(p, c.widths) + impl.PlanWidth(q, c.widths)
		for _, from := range []impl.Plan{filter(m.condition(width), join(e, p, q)), filter(m.condition(width), leftJoin(e, p, q))} {
			for i, rule := range []int{impl.PushLeft, impl.PushRight} {
				to, ok := impl.ApplyStep(from, c.widths, step(rule))
				if !ok {
					continue
				}
				moved[i]++
				before, after, rows := impl.PlanCost(from, c.db), impl.PlanCost(to, c.db), len(rowsOf(t, from.Kids[0].Kids[i], c.db))
				if after > before+rows {
					t.Fatalf("PlanCost(%v) = %d, after the rule %d %d, but the filtered kid has %d rows, for %v", from, before, rule, after, rows, c.db)
				}
			}
		}
	})
	if moved[0] < 100 || moved[1] < 50 {
		t.Errorf("only %v filters are moved down", moved)
	}
}

func TestEstimateCost(t *testing.T) {
	x, y := scan(0), scan(1)
	stats := []impl.Stats{statistics(10, 4, 2, 5, 0), full(7), full(0)}
	is := op(impl.EqualTo, col(0), lit(3))
	for _, c := range []struct {
		p    impl.Plan
		want int
	}{
		{x, 10}, {y, 7}, {scan(2), 0}, {filter(is, x), 10 + 2}, {filter(is, filter(is, x)), 10 + 2 + 0}, {filter(is, distinct(x)), 10 + 10 + 1}, {project(x, is), 10 + 10}, {group(x), 10 + 1}, {group(x, 1), 10 + 10}, {group(scan(2)), 0},
		{union(y, scan(2)), 7 + 7}, {union(x, filter(lit(0), x)), 10 + 10 + 0 + 10}, {join(equals(0, 2), x, y), 10 + 7 + 7}, {join(lit(1), x, y), 10 + 7 + 70}, {leftJoin(equals(0, 2), x, y), 10 + 7 + 10}, {leftJoin(lit(0), filter(lit(0), x), y), 10 + 7},
	} {
		if got := impl.EstimateCost(c.p, stats); got != c.want {
			t.Errorf("EstimateCost(%v) = %d, want %d", c.p, got, c.want)
		}
	}
	_, many := manyRows()
	for _, c := range []struct {
		p    impl.Plan
		want int
	}{
		// Four scans, two joins of 160000 rows, and a join and a projection with MaxBound rows.
		{many, 2*impl.MaxBound + 2*160000 + 4*400}, {union(many, many), 5*impl.MaxBound + 4*160000 + 8*400}, {filter(col(0), many), 2333000000 + 2*160000 + 4*400},
	} {
		if got := impl.EstimateCost(c.p, []impl.Stats{full(400)}); got != c.want {
			t.Errorf("EstimateCost(%v) = %d, want %d", c.p, got, c.want)
		}
	}
}

func TestP059EstimatedCostsAddUp(t *testing.T) {
	for _, c := range estimatedPlans(59, 1000) {
		want := estimate(t, c.p, c.stats)
		for _, kid := range c.p.Kids {
			want += impl.EstimateCost(kid, c.stats)
		}
		if got := impl.EstimateCost(c.p, c.stats); got != want {
			t.Fatalf("EstimateCost(%v, %v) = %d, want %d", c.p, c.stats, got, want)
		}
	}
}

func TestCheapestPlan(t *testing.T) {
	x, y := scan(0), scan(1)
	bad := []impl.Plan{{}, scan(9), filter(col(5), y), union(x, y)}
	stats := []impl.Stats{statistics(10, 4, 2, 5, 0), full(7), full(0), full(7)}
	for _, c := range []struct {
		plans []impl.Plan
		want  int
	}{
		{nil, -1}, {[]impl.Plan{}, -1}, {[]impl.Plan{x}, 0}, {[]impl.Plan{x, y}, 1}, {[]impl.Plan{y, x}, 0}, {[]impl.Plan{x, y, scan(2)}, 2}, {[]impl.Plan{scan(2), x, y}, 0},
		// Equal costs.
		{[]impl.Plan{y, scan(3)}, 0}, {[]impl.Plan{scan(3), y}, 0}, {[]impl.Plan{x, scan(3), y, scan(3)}, 1}, {[]impl.Plan{scan(2), distinct(scan(2)), scan(2)}, 0}, {[]impl.Plan{x, group(scan(2)), scan(2)}, 1},
		// Invalid plans.
		{bad, -1}, {bad[:1], -1}, {append(slices.Clone(bad), x), 4}, {slices.Concat(bad, []impl.Plan{x}, bad, []impl.Plan{y}, bad), 9}, {slices.Concat([]impl.Plan{y}, bad), 0}, {slices.Concat(bad, []impl.Plan{distinct(y)}, bad, []impl.Plan{distinct(scan(3)), distinct(x)}), 4}, {append(slices.Clone(bad), scan(2)), 4},
	} {
		if got := impl.CheapestPlan(c.plans, stats); got != c.want {
			t.Errorf("CheapestPlan(%v) = %d, want %d", c.plans, got, c.want)
		}
	}
	_, many := manyRows()
	if got := impl.CheapestPlan([]impl.Plan{union(many, many), many, distinct(many)}, []impl.Stats{full(400)}); got != 1 {
		t.Errorf("CheapestPlan of plans with estimates at MaxBound = %d", got)
	}
	for count := range impl.MaxPlans + 4 {
		list := append(slices.Repeat([]impl.Plan{x}, count), y)
		invalid := append(slices.Repeat(bad[:1], count), y)
		want := count
		if count >= impl.MaxPlans {
			want = -1
		}
		if a, b := impl.CheapestPlan(list, stats), impl.CheapestPlan(invalid, stats); a != want || b != want {
			t.Errorf("CheapestPlan of %d plans = %d and %d, want %d", count+1, a, b, want)
		}
	}
	for _, wrong := range [][]impl.Stats{nil, {{}}, {stats[0], stats[1], {}}, {full(1), full(2), full(3), full(4), full(5)}, {statistics(4, 3, 2), full(1)}} {
		if got := impl.CheapestPlan([]impl.Plan{x, y}, wrong); got != -1 {
			t.Errorf("CheapestPlan for the statistics %v = %d", wrong, got)
		}
	}
}

func TestP060NoPlanIsCheaper(t *testing.T) {
	m := &maker{state: 60}
	for _, c := range estimatedPlans(60, 300) {
		var plans []impl.Plan
		for range m.below(impl.MaxPlans + 1) {
			p, _ := m.plan(c.widths, m.below(3))
			if m.below(5) == 0 {
				p = scan(m.below(6) - 1)
			}
			plans = append(plans, p)
		}
		n := impl.CheapestPlan(plans, c.stats)
		if n < -1 || n >= len(plans) {
			t.Fatalf("CheapestPlan of %d plans = %d", len(plans), n)
		}
		for i, p := range plans {
			cost := impl.EstimateCost(p, c.stats)
			if cost == -1 {
				continue
			}
			if n == -1 {
				t.Fatalf("CheapestPlan(%v, %v) = -1", plans, c.stats)
			}
			if best := impl.EstimateCost(plans[n], c.stats); best < 0 || best > cost || i < n && best == cost {
				t.Fatalf("CheapestPlan(%v, %v) = %d with the cost %d, but the plan %d has the cost %d", plans, c.stats, n, best, i, cost)
			}
		}
	}
}

func TestImprove(t *testing.T) {
	x, y, empty := scan(0), scan(1), scan(2)
	is := op(impl.EqualTo, col(0), lit(3))
	stats := []impl.Stats{statistics(10, 4, 2, 5, 0), full(7), full(0)}
	twice := func(p impl.Plan) impl.Plan { return distinct(distinct(p)) }
	for _, c := range []struct {
		p, want impl.Plan
		s       impl.Step
	}{
		{x, x, step(0)}, {filter(is, x), filter(is, x), step(0)}, {twice(x), distinct(x), step(impl.DropDistinct)}, {filter(is, filter(is, x)), filter(and(is, is), x), step(impl.MergeFilters)},
		// No step has a smaller cost: there is none, it is more expensive, or the cost is the same.
		{join(equals(0, 2), x, y), join(equals(0, 2), x, y), step(0)}, {twice(empty), twice(empty), step(0)}, {filter(lit(0), filter(lit(0), x)), filter(lit(0), filter(lit(0), x)), step(0)}, {filter(and(is, is), x), filter(and(is, is), x), step(0)},
		{filter(lit(0), leftJoin(lit(1), empty, y)), filter(lit(0), leftJoin(lit(1), empty, y)), step(0)},
		// The first step of several with the same cost, and the best one otherwise.
		{join(lit(0), twice(x), twice(x)), join(lit(0), distinct(x), twice(x)), step(impl.DropDistinct, 0)},
		{union(project(twice(y), col(0)), twice(y)), union(project(distinct(y), col(0)), twice(y)), step(impl.DropDistinct, 0, 0)},
		{join(lit(0), twice(y), twice(x)), join(lit(0), twice(y), distinct(x)), step(impl.DropDistinct, 1)},
		{join(lit(0), twice(empty), twice(y)), join(lit(0), twice(empty), distinct(y)), step(impl.DropDistinct, 1)},
		{join(lit(0), join(lit(0), twice(y), twice(x)), twice(y)), join(lit(0), join(lit(0), twice(y), distinct(x)), twice(y)), step(impl.DropDistinct, 0, 1)},
		// Each rule that can be the best one.
		{filter(equals(0, 2), join(lit(1), x, y)), join(and(lit(1), equals(0, 2)), x, y), step(impl.FilterIntoJoin)},
		{filter(lit(0), join(lit(1), x, y)), join(lit(1), filter(lit(0), x), y), step(impl.PushLeft)},
		{filter(isNull(2), join(lit(1), x, y)), join(lit(1), x, filter(isNull(0), y)), step(impl.PushRight)},
		{filter(is, leftJoin(lit(1), x, y)), leftJoin(lit(1), filter(is, x), y), step(impl.PushLeft)},
		{filter(equals(0, 2), leftJoin(equals(1, 2), join(lit(1), y, y), y)), filter(equals(0, 2), join(equals(1, 2), join(lit(1), y, y), y)), step(impl.OuterToInner)},
		{filter(isNull(0), union(y, y)), union(filter(isNull(0), y), filter(isNull(0), y)), step(impl.FilterUnion)},
		{filter(is, project(y, col(0))), project(filter(is, y), col(0)), step(impl.FilterProject)},
		{project(project(x, is), col(0)), project(x, is), step(impl.MergeProjects)},
	} {
		if got, s := impl.Improve(c.p, stats); !equal(got, c.want) || !equal(s, c.s) {
			t.Errorf("Improve(%v) = %v, %v, want %v, %v", c.p, got, s, c.want, c.s)
		}
	}
}

func TestP061OneStepDoesNotMakeItWorse(t *testing.T) {
	improved, kept := 0, 0
	for _, c := range estimatedPlans(61, 600) {
		want, best, least := c.p, impl.Step{}, impl.EstimateCost(c.p, c.stats)
		for _, s := range impl.StepsFor(c.p, c.widths) {
			q := applied(t, c.p, c.widths, s)
			if cost := impl.EstimateCost(q, c.stats); cost < least {
				want, best, least = q, s, cost
			}
		}
		got, s := impl.Improve(c.p, c.stats)
		if !equal(got, want) || !equal(s, best) {
			t.Fatalf("Improve(%v, %v) = %v, %v, want %v, %v", c.p, c.stats, got, s, want, best)
		}
		if impl.EstimateCost(got, c.stats) > impl.EstimateCost(c.p, c.stats) {
			t.Fatalf("Improve(%v, %v) = %v", c.p, c.stats, got)
		}
		if equal(s, impl.Step{}) {
			kept++
			continue
		}
		improved++
		if !impl.CheckRewrite(c.p, got, c.widths, []impl.Step{s}) {
			t.Fatalf("the step %v does not lead from %v to %v", s, c.p, got)
		}
	}
	if improved < 100 || kept < 100 {
		t.Errorf("%d plans are improved, %d are not", improved, kept)
	}
}
