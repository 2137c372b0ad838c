package tests

import (
	"math"
	"slices"
	"testing"

	"loop.example/queryoptimizer/impl"
)

// statistics returns statistics, given the numbers of different values and of nulls one after the other for each column.
func statistics(rows int, counts ...int) impl.Stats {
	s := impl.Stats{Rows: rows}
	for i := 0; i < len(counts); i += 2 {
		s.Distinct = append(s.Distinct, counts[i])
		s.Nulls = append(s.Nulls, counts[i+1])
	}
	return s
}

// full returns the statistics of a table of one column with a number of different values.
func full(rows int) impl.Stats {
	return statistics(rows, rows, 0)
}

// invalidStats returns statistics that are not valid for the number of elements of Distinct.
func invalidStats() []impl.Stats {
	list := []impl.Stats{
		{}, {Rows: 4}, {Rows: 4, Nulls: []int{1}}, {Rows: 4, Distinct: []int{1}}, {Rows: 4, Distinct: []int{1, 1}, Nulls: []int{1}}, {Rows: 4, Distinct: []int{1}, Nulls: []int{1, 1}},
		statistics(4, slices.Repeat([]int{1, 1}, impl.MaxWidth+1)...), {Rows: 4, Distinct: []int{1, 1, 1, 1, 1, 1}, Nulls: []int{1, 1, 1, 1, 1, 1, 1}},
	}
	for _, rows := range []int{-1, impl.MaxRows + 1, math.MaxInt, math.MinInt} {
		list = append(list, statistics(rows, 0, 0), statistics(rows, 1, 1))
	}
	for _, pair := range [][2]int{{-1, 0}, {0, -1}, {-1, -1}, {5, 0}, {0, 5}, {4, 1}, {1, 4}, {3, 2}, {5, 5}, {5, -1}, {-1, 5}, {math.MaxInt, 0}, {0, math.MaxInt}, {math.MinInt, 0}, {0, math.MinInt}, {math.MinInt, math.MaxInt}, {math.MaxInt, math.MinInt}} {
		list = append(list, statistics(4, pair[0], pair[1]), statistics(4, pair[0], pair[1], 1, 1), statistics(4, 1, 1, pair[0], pair[1]))
	}
	return append(list, statistics(0, 1, 0), statistics(0, 0, 1), statistics(400, 400, 1))
}

// statsFor returns the statistics of tables.
func statsFor(db []impl.Table) []impl.Stats {
	var stats []impl.Stats
	for _, x := range db {
		stats = append(stats, impl.StatsOf(x))
	}
	return stats
}

// rowsIn returns the numbers of rows of tables with some statistics.
func rowsIn(stats []impl.Stats) []int {
	var counts []int
	for _, s := range stats {
		counts = append(counts, s.Rows)
	}
	return counts
}

// stats returns valid statistics of a table, often with numbers at a limit.
func (m *maker) stats(width int) impl.Stats {
	s := impl.Stats{Rows: []int{0, 1, 2, 7, 30, 399, 400}[m.below(7)]}
	for range width {
		nulls := []int{0, s.Rows, m.below(s.Rows + 1)}[m.below(3)]
		s.Nulls = append(s.Nulls, nulls)
		s.Distinct = append(s.Distinct, []int{0, s.Rows - nulls, min(1, s.Rows-nulls), m.below(s.Rows - nulls + 1)}[m.below(4)])
	}
	return s
}

// predicate returns a condition, often one for which statistics matter.
func (m *maker) predicate(width int, levels int) impl.Expr {
	switch m.below(8) {
	case 0, 1:
		return op(impl.EqualTo, col(m.below(width)), val(m.value()))
	case 2:
		return isNull(m.below(width))
	case 3:
		return m.expr(width, 2)
	}
	if levels == 0 {
		return op(impl.LessThan, col(m.below(width)), m.expr(width, 1))
	}
	switch m.below(3) {
	case 0:
		return not(m.predicate(width, levels-1))
	case 1:
		return op(impl.OrExpr, m.predicate(width, levels-1), m.predicate(width, levels-1))
	}
	return and(m.predicate(width, levels-1), m.predicate(width, levels-1))
}

// withPredicates returns a plan in which the conditions of filters and joins are replaced.
func (m *maker) withPredicates(p impl.Plan, widths []int) impl.Plan {
	kids, width := p.Kids, 0
	p.Kids = nil
	for _, kid := range kids {
		p.Kids = append(p.Kids, m.withPredicates(kid, widths))
		width += impl.PlanWidth(kid, widths)
	}
	if p.Kind == impl.Filter || p.Kind == impl.Join || p.Kind == impl.LeftJoin {
		p.Exprs = []impl.Expr{m.predicate(width, 2)}
	}
	return p
}

// estimated is a valid plan for tables with some statistics.
type estimated struct {
	p      impl.Plan
	stats  []impl.Stats
	widths []int
}

// estimatedPlans returns plans and statistics.
func estimatedPlans(seed int, count int) []estimated {
	m := &maker{state: uint64(seed)}
	var list []estimated
	for range count {
		var c estimated
		for range 1 + m.below(impl.MaxTables) {
			width := 1 + m.below(3)
			c.widths = append(c.widths, width)
			c.stats = append(c.stats, m.stats(width))
		}
		p, _ := m.rewritable(c.widths, m.below(6))
		if m.below(4) == 0 {
			p, _ = m.plan(c.widths, m.below(5))
		}
		c.p = m.withPredicates(p, c.widths)
		list = append(list, c)
	}
	return list
}

// estimate returns EstimateRows of a valid plan.
func estimate(t *testing.T, p impl.Plan, stats []impl.Stats) int {
	t.Helper()
	n := impl.EstimateRows(p, stats)
	if n < 0 || n > impl.MaxBound {
		t.Fatalf("EstimateRows(%v, %v) = %d", p, stats, n)
	}
	return n
}

// slowSelectivity returns the permille of rows for which a valid expression is true, by the words of the document.
func slowSelectivity(e impl.Expr, s impl.Stats) int {
	var kids []int
	for _, kid := range e.Kids {
		kids = append(kids, slowSelectivity(kid, s))
	}
	switch e.Kind {
	case impl.Constant:
		if e.Val == null || e.Val == num(0) {
			return 0
		}
		return 1000
	case impl.NotExpr:
		return 1000 - kids[0]
	case impl.AndExpr:
		return kids[0] * kids[1] / 1000
	case impl.OrExpr:
		return kids[0] + kids[1] - kids[0]*kids[1]/1000
	case impl.EqualTo:
		if c := e.Kids[0].Col; e.Kids[0].Kind == impl.Column && e.Kids[1].Kind == impl.Constant && e.Kids[1].Val != null {
			if s.Rows*s.Distinct[c] == 0 {
				return 0
			}
			return 1000 * (s.Rows - s.Nulls[c]) / (s.Rows * s.Distinct[c])
		}
		return 100
	case impl.LessThan:
		return 333
	case impl.NullTest:
		if e.Kids[0].Kind == impl.Column && s.Rows > 0 {
			return 1000 * s.Nulls[e.Kids[0].Col] / s.Rows
		}
		return 0
	}
	return 500
}

// slowFixed returns the fixed permille of a valid expression, by the words of the document.
func slowFixed(e impl.Expr) int {
	switch e.Kind {
	case impl.Constant:
		return slowSelectivity(e, impl.Stats{})
	case impl.AndExpr:
		return slowFixed(e.Kids[0]) * slowFixed(e.Kids[1]) / 1000
	case impl.EqualTo:
		return 100
	}
	return 333
}

// slowEstimate returns the estimated number of rows of a valid plan, by the words of the document.
func slowEstimate(p impl.Plan, stats []impl.Stats) int {
	var kids []int
	for _, kid := range p.Kids {
		kids = append(kids, slowEstimate(kid, stats))
	}
	switch p.Kind {
	case impl.Scan:
		return stats[p.Table].Rows
	case impl.Filter:
		if p.Kids[0].Kind == impl.Scan {
			return kids[0] * slowSelectivity(p.Exprs[0], stats[p.Kids[0].Table]) / 1000
		}
		return kids[0] * slowFixed(p.Exprs[0]) / 1000
	case impl.Join, impl.LeftJoin:
		n := min(kids[0]*kids[1], impl.MaxBound) * slowFixed(p.Exprs[0]) / 1000
		if p.Kind == impl.LeftJoin && n < kids[0] {
			return kids[0]
		}
		return n
	case impl.Union:
		return min(kids[0]+kids[1], impl.MaxBound)
	case impl.Group:
		if len(p.Cols) == 0 {
			return min(kids[0], 1)
		}
	}
	return kids[0]
}
