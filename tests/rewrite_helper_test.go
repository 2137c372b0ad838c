package tests

import (
	"slices"
	"testing"

	"loop.example/queryoptimizer/impl"
)

// step returns a step for the part at a path.
func step(rule int, path ...int) impl.Step {
	return impl.Step{Rule: rule, Path: path}
}

// and returns the conjunction of two expressions.
func and(e impl.Expr, f impl.Expr) impl.Expr {
	return op(impl.AndExpr, e, f)
}

// isNull returns the null test of a column.
func isNull(n int) impl.Expr {
	return op(impl.NullTest, col(n))
}

// not returns the negation of an expression.
func not(e impl.Expr) impl.Expr {
	return op(impl.NotExpr, e)
}

// applied returns the plan after a step, and fails if the step cannot be applied.
func applied(t *testing.T, p impl.Plan, widths []int, s impl.Step) impl.Plan {
	t.Helper()
	q, ok := impl.ApplyStep(p, widths, s)
	if !ok {
		t.Fatalf("ApplyStep(%v, %v, %v) fails", p, widths, s)
	}
	return q
}

// refuses fails unless a step cannot be applied to a plan.
func refuses(t *testing.T, p impl.Plan, widths []int, s impl.Step) {
	t.Helper()
	if q, ok := impl.ApplyStep(p, widths, s); ok || !equal(q, impl.Plan{}) {
		t.Errorf("ApplyStep(%v, %v, %v) = %v, %v", p, widths, s, q, ok)
	}
}

// pathsOf returns the paths of all parts of a plan, each one before those below it.
func pathsOf(p impl.Plan) [][]int {
	list := [][]int{nil}
	for i, kid := range p.Kids {
		for _, path := range pathsOf(kid) {
			list = append(list, slices.Concat([]int{i}, path))
		}
	}
	return list
}

// condition returns an expression with the columns of a part of a row.
func (m *maker) condition(width int) impl.Expr {
	low := m.below(width)
	e := m.expr(1+m.below(width-low), m.below(4))
	moved, _ := impl.Substitute(e, columns(impl.MaxWidth)[low:], impl.MaxWidth)
	return moved
}

// rewritable returns a valid plan with many filters and projections, and its width.
func (m *maker) rewritable(widths []int, levels int) (impl.Plan, int) {
	if levels == 0 {
		return m.plan(widths, m.below(2))
	}
	p, width := m.rewritable(widths, levels-1)
	switch m.below(9) {
	case 0:
		return m.projection(p, width, 1+m.below(4))
	case 1, 2:
		return m.join(p, width, widths, levels)
	case 3:
		q, other := m.rewritable(widths, levels-1)
		if other != width {
			q = p
		}
		return union(p, q), width
	case 4:
		return distinct(p), width
	case 5:
		return filter(and(m.condition(width), m.condition(width)), p), width
	}
	return filter(m.condition(width), p), width
}

// rewritablePlans returns plans with many filters and projections, and tables; no table on the way has more than MaxRows rows.
func rewritablePlans(t *testing.T, seed int, count int) []somePlan {
	t.Helper()
	return plansFrom(t, seed, count, func(m *maker, widths []int) (impl.Plan, int) { return m.rewritable(widths, m.below(6)) })
}

// walk returns at most a number of steps that can be applied one after the other, and the plan after them.
func (m *maker) walk(t *testing.T, p impl.Plan, widths []int, count int) ([]impl.Step, impl.Plan) {
	t.Helper()
	var steps []impl.Step
	for range count {
		list := impl.StepsFor(p, widths)
		if len(list) == 0 {
			break
		}
		s := list[m.below(len(list))]
		steps = append(steps, s)
		p = applied(t, p, widths, s)
	}
	return steps, p
}

// otherPlans returns plans each of which differs from a plan in one place.
func otherPlans(p impl.Plan) []impl.Plan {
	var list []impl.Plan
	add := func(change func(q *impl.Plan)) {
		q := p
		change(&q)
		list = append(list, q)
	}
	add(func(q *impl.Plan) { q.Kind++ })
	add(func(q *impl.Plan) { q.Table++ })
	add(func(q *impl.Plan) { q.Exprs = append(slices.Clone(p.Exprs), lit(1)) })
	add(func(q *impl.Plan) { q.Cols = append(slices.Clone(p.Cols), 5) })
	add(func(q *impl.Plan) { q.Kids = append(slices.Clone(p.Kids), scan(0)) })
	for i, e := range p.Exprs {
		for _, other := range otherExprs(e) {
			add(func(q *impl.Plan) { q.Exprs = slices.Concat(p.Exprs[:i], []impl.Expr{other}, p.Exprs[i+1:]) })
		}
	}
	for i := range p.Cols {
		add(func(q *impl.Plan) { q.Cols = slices.Concat(p.Cols[:i], []int{p.Cols[i] + 1}, p.Cols[i+1:]) })
		add(func(q *impl.Plan) { q.Cols = slices.Concat(p.Cols[:i], p.Cols[i+1:]) })
	}
	for i, kid := range p.Kids {
		add(func(q *impl.Plan) { q.Kids = slices.Concat(p.Kids[:i], p.Kids[i+1:]) })
		for _, other := range otherPlans(kid) {
			add(func(q *impl.Plan) { q.Kids = slices.Concat(p.Kids[:i], []impl.Plan{other}, p.Kids[i+1:]) })
		}
	}
	return list
}

// otherExprs returns expressions each of which differs from an expression in one place.
func otherExprs(e impl.Expr) []impl.Expr {
	list := []impl.Expr{
		{Kind: e.Kind + 1, Col: e.Col, Val: e.Val, Kids: e.Kids},
		{Kind: e.Kind, Col: e.Col + 1, Val: e.Val, Kids: e.Kids},
		{Kind: e.Kind, Col: e.Col, Val: impl.Value{Null: e.Val.Null, N: e.Val.N + 1}, Kids: e.Kids},
		{Kind: e.Kind, Col: e.Col, Val: impl.Value{Null: !e.Val.Null, N: e.Val.N}, Kids: e.Kids},
		{Kind: e.Kind, Col: e.Col, Val: e.Val, Kids: append(slices.Clone(e.Kids), lit(1))},
	}
	for i, kid := range e.Kids {
		list = append(list, impl.Expr{Kind: e.Kind, Col: e.Col, Val: e.Val, Kids: slices.Concat(e.Kids[:i], e.Kids[i+1:])})
		for _, other := range otherExprs(kid) {
			kids := slices.Concat(e.Kids[:i], []impl.Expr{other}, e.Kids[i+1:])
			list = append(list, impl.Expr{Kind: e.Kind, Col: e.Col, Val: e.Val, Kids: kids})
		}
	}
	return list
}

// unions returns a plan with a number of unions, as evenly divided as possible.
func unions(count int) impl.Plan {
	if count == 0 {
		return scan(0)
	}
	return union(unions((count-1)/2), unions(count-1-(count-1)/2))
}
