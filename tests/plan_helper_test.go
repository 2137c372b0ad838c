package tests

import (
	"slices"
	"testing"

	"loop.example/queryoptimizer/impl"
)

// scan returns the scan of a table.
func scan(n int) impl.Plan {
	return impl.Plan{Kind: impl.Scan, Table: n}
}

// filter returns the filter of a plan.
func filter(e impl.Expr, p impl.Plan) impl.Plan {
	return impl.Plan{Kind: impl.Filter, Exprs: []impl.Expr{e}, Kids: []impl.Plan{p}}
}

// project returns the projection of a plan to expressions.
func project(p impl.Plan, list ...impl.Expr) impl.Plan {
	return impl.Plan{Kind: impl.Project, Exprs: list, Kids: []impl.Plan{p}}
}

// join returns the join of two plans.
func join(e impl.Expr, p impl.Plan, q impl.Plan) impl.Plan {
	return impl.Plan{Kind: impl.Join, Exprs: []impl.Expr{e}, Kids: []impl.Plan{p, q}}
}

// leftJoin returns the left join of two plans.
func leftJoin(e impl.Expr, p impl.Plan, q impl.Plan) impl.Plan {
	return impl.Plan{Kind: impl.LeftJoin, Exprs: []impl.Expr{e}, Kids: []impl.Plan{p, q}}
}

// union returns the union of two plans.
func union(p impl.Plan, q impl.Plan) impl.Plan {
	return impl.Plan{Kind: impl.Union, Kids: []impl.Plan{p, q}}
}

// distinct returns the different rows of a plan.
func distinct(p impl.Plan) impl.Plan {
	return impl.Plan{Kind: impl.Distinct, Kids: []impl.Plan{p}}
}

// group returns the groups of a plan by columns.
func group(p impl.Plan, cols ...int) impl.Plan {
	return impl.Plan{Kind: impl.Group, Cols: cols, Kids: []impl.Plan{p}}
}

// columns returns the columns from 0 on.
func columns(width int) []impl.Expr {
	var list []impl.Expr
	for i := range width {
		list = append(list, col(i))
	}
	return list
}

// equals returns the condition that two columns are equal.
func equals(a int, b int) impl.Expr {
	return op(impl.EqualTo, col(a), col(b))
}

// stacked returns a plan with a number of levels of kids above another plan.
func stacked(levels int, p impl.Plan) impl.Plan {
	for range levels {
		p = distinct(p)
	}
	return p
}

// thicket returns a plan with a number of levels of kids, in which both kids of each part share their memory.
func thicket(levels int) impl.Plan {
	p := scan(0)
	for range levels {
		p = union(p, p)
	}
	return p
}

// basicPlans returns a plan of each kind, valid for the widths 2 and 1.
func basicPlans() []impl.Plan {
	return []impl.Plan{
		scan(1), filter(col(1), scan(0)), project(scan(0), col(1), lit(3)), join(equals(0, 2), scan(0), scan(1)),
		leftJoin(equals(0, 2), scan(0), scan(1)), union(scan(0), scan(0)), distinct(scan(0)), group(scan(0), 1),
	}
}

// invalidPlans returns plans that are not valid for the widths 2 and 1.
func invalidPlans() []impl.Plan {
	pair := []impl.Plan{scan(0), scan(0)}
	list := []impl.Plan{
		{}, {Kind: -1, Kids: pair[:1]}, {Kind: 9}, {Kind: 9, Kids: pair[:1]}, scan(-1), scan(2),
		filter(impl.Expr{}, scan(0)), filter(col(2), scan(0)), filter(col(-1), scan(0)), filter(nested(9, col(0)), scan(0)), filter(bush(100), scan(0)),
		project(scan(0), col(0), col(2)), project(scan(0), col(2), col(0)), project(scan(0), lit(10000)), project(scan(1), columns(6)...),
		join(col(3), scan(0), scan(1)), leftJoin(col(3), scan(0), scan(1)), join(impl.Expr{}, scan(0), scan(1)), leftJoin(impl.Expr{}, scan(0), scan(1)),
		union(scan(0), scan(1)), union(scan(1), scan(0)),
		group(scan(0), -1), group(scan(0), 2), group(scan(0), 0, 0), group(scan(0), 1, 0), group(scan(0), 0, 1, 2), group(scan(1), 1),
		stacked(impl.MaxDepth+1, scan(0)), thicket(impl.MaxDepth + 1), thicket(100),
	}
	for _, p := range basicPlans() {
		list = append(list, withWrongFields(p)...)
	}
	for _, p := range slices.Clone(list) {
		list = append(list, distinct(p), union(p, scan(0)), union(scan(0), p), join(lit(1), p, scan(1)), leftJoin(lit(1), scan(1), p), filter(lit(1), p), project(p, lit(1)), group(p))
	}
	return list
}

// withWrongFields returns copies of a plan with one more or one less element in a field, or a table that its kind does not have.
func withWrongFields(p impl.Plan) []impl.Plan {
	var list []impl.Plan
	add := func(change func(q *impl.Plan)) {
		q := p
		change(&q)
		list = append(list, q)
	}
	add(func(q *impl.Plan) { q.Kids = append(slices.Clone(p.Kids), scan(0)) })
	if len(p.Kids) > 0 {
		add(func(q *impl.Plan) { q.Kids = p.Kids[1:] })
		add(func(q *impl.Plan) { q.Table = 1 })
		add(func(q *impl.Plan) { q.Table = -1 })
	}
	if p.Kind != impl.Group {
		add(func(q *impl.Plan) { q.Cols = []int{0} })
	}
	if p.Kind != impl.Project {
		add(func(q *impl.Plan) { q.Exprs = append(slices.Clone(p.Exprs), lit(1)) })
	}
	if len(p.Exprs) > 0 {
		add(func(q *impl.Plan) { q.Exprs = nil })
		add(func(q *impl.Plan) { q.Exprs = slices.Repeat([]impl.Expr{lit(1)}, impl.MaxWidth+1) })
	}
	return list
}

// rowsOf returns the rows of the result of a plan, and fails if there is no valid result.
func rowsOf(t *testing.T, p impl.Plan, db []impl.Table) [][]impl.Value {
	t.Helper()
	x, ok := impl.EvalPlan(p, db)
	if !ok || !impl.ValidTable(x) {
		t.Fatalf("EvalPlan(%v, %v) = %v, %v", p, db, x, ok)
	}
	return x.Rows
}

// sameResult fails unless two plans have the same result.
func sameResult(t *testing.T, p impl.Plan, q impl.Plan, db []impl.Table) {
	t.Helper()
	if a, b := rowsOf(t, p, db), rowsOf(t, q, db); !equal(a, b) {
		t.Fatalf("the result of %v is %v, that of %v is %v, for %v", p, a, q, b, db)
	}
}

// widthsOf returns the widths of tables.
func widthsOf(db []impl.Table) []int {
	var widths []int
	for _, x := range db {
		widths = append(widths, x.Width)
	}
	return widths
}

// countsOf returns the numbers of rows of tables.
func countsOf(db []impl.Table) []int {
	var counts []int
	for _, x := range db {
		counts = append(counts, len(x.Rows))
	}
	return counts
}

// slowRows returns the rows of the result of a valid plan, computed by the words of the document, in any order, and the largest number of rows on the way.
func slowRows(t *testing.T, p impl.Plan, db []impl.Table) ([][]impl.Value, int) {
	t.Helper()
	if p.Kind == impl.Scan {
		return db[p.Table].Rows, len(db[p.Table].Rows)
	}
	first, most := slowRows(t, p.Kids[0], db)
	var second [][]impl.Value
	if len(p.Kids) == 2 {
		var other int
		second, other = slowRows(t, p.Kids[1], db)
		most = max(most, other)
	}
	result := slowStep(t, p, first, second, widthsOf(db))
	if len(result) > impl.MaxRows {
		return nil, len(result)
	}
	return result, max(most, len(result))
}

// slowStep returns the rows of the result of a plan, given those of its kids.
func slowStep(t *testing.T, p impl.Plan, first [][]impl.Value, second [][]impl.Value, widths []int) [][]impl.Value {
	t.Helper()
	var result [][]impl.Value
	for i, r := range first {
		switch p.Kind {
		case impl.Filter:
			if isTrue(t, p.Exprs[0], r) {
				result = append(result, r)
			}
		case impl.Project:
			var values []impl.Value
			for _, e := range p.Exprs {
				values = append(values, eval(t, e, r))
			}
			result = append(result, values)
		case impl.Join, impl.LeftJoin:
			matches := slowMatches(t, p.Exprs[0], r, second)
			if len(matches) == 0 && p.Kind == impl.LeftJoin {
				nulls := slices.Repeat([]impl.Value{null}, impl.PlanWidth(p.Kids[1], widths))
				matches = [][]impl.Value{slices.Concat(r, nulls)}
			}
			result = append(result, matches...)
		case impl.Union:
			result = append(result, r)
		case impl.Distinct:
			if countOf(first[:i], r) == 0 {
				result = append(result, r)
			}
		case impl.Group:
			keys := picked(first, p.Cols)
			if countOf(keys[:i], keys[i]) == 0 {
				result = append(result, slices.Concat(keys[i], []impl.Value{num(countOf(keys, keys[i]))}))
			}
		}
	}
	if p.Kind == impl.Union {
		return append(result, second...)
	}
	return result
}

// slowMatches returns a row followed by each other row for which a condition is true.
func slowMatches(t *testing.T, e impl.Expr, r []impl.Value, others [][]impl.Value) [][]impl.Value {
	t.Helper()
	var result [][]impl.Value
	for _, other := range others {
		if both := slices.Concat(r, other); isTrue(t, e, both) {
			result = append(result, both)
		}
	}
	return result
}

// picked returns the values of columns of each row.
func picked(list [][]impl.Value, cols []int) [][]impl.Value {
	var result [][]impl.Value
	for _, r := range list {
		var values []impl.Value
		for _, c := range cols {
			values = append(values, r[c])
		}
		result = append(result, values)
	}
	return result
}

// db returns 1 to 4 tables, some of them without rows.
func (m *maker) db(t *testing.T, rows int) []impl.Table {
	t.Helper()
	var db []impl.Table
	for range 1 + m.below(impl.MaxTables) {
		width := 1 + m.below(3)
		db = append(db, tableOf(t, width, m.rows(width, m.below(rows+1))))
	}
	return db
}

// plan returns a valid plan for some widths with at most a number of levels of kids, and its width.
func (m *maker) plan(widths []int, levels int) (impl.Plan, int) {
	if levels == 0 || m.below(8) == 0 {
		n := m.below(len(widths))
		return scan(n), widths[n]
	}
	p, width := m.plan(widths, levels-1)
	switch m.below(8) {
	case 0:
		return filter(m.expr(width, 3), p), width
	case 1:
		return m.projection(p, width, 1+m.below(4))
	case 2, 3:
		return m.join(p, width, widths, levels)
	case 4:
		q, other := m.plan(widths, max(levels-2, 0))
		if other != width && levels > 1 {
			q, other = m.projection(q, other, width)
		}
		if other != width {
			q = p
		}
		return union(p, q), width
	case 5:
		return distinct(p), width
	case 6:
		return group(p), 1
	}
	var cols []int
	for c := range min(width, impl.MaxWidth-1) {
		if m.below(2) == 0 {
			cols = append(cols, c)
		}
	}
	return group(p, cols...), len(cols) + 1
}

// projection returns a projection of a plan to a number of columns and other expressions.
func (m *maker) projection(p impl.Plan, width int, count int) (impl.Plan, int) {
	var list []impl.Expr
	for range count {
		list = append(list, m.expr(width, 2*m.below(2)))
	}
	return project(p, list...), count
}

// join returns a join or left join of a plan with another one, or its different rows if that is too wide.
func (m *maker) join(p impl.Plan, width int, widths []int, levels int) (impl.Plan, int) {
	q, other := m.plan(widths, levels-1)
	both := width + other
	if both > impl.MaxWidth {
		return distinct(p), width
	}
	e := m.expr(both, 2)
	if m.below(2) == 0 {
		e = equals(m.below(width), width+m.below(other))
	}
	if m.below(2) == 0 {
		return join(e, p, q), both
	}
	return leftJoin(e, p, q), both
}

// somePlan is a valid plan for some tables.
type somePlan struct {
	p      impl.Plan
	db     []impl.Table
	widths []int
}

// somePlans returns plans and tables; no table on the way has more than MaxRows rows.
func somePlans(t *testing.T, seed int, count int) []somePlan {
	t.Helper()
	return plansFrom(t, seed, count, func(m *maker, widths []int) (impl.Plan, int) { return m.plan(widths, m.below(5)) })
}

// plansFrom returns plans that a function makes, and tables; no table on the way has more than MaxRows rows.
func plansFrom(t *testing.T, seed int, count int, plan func(m *maker, widths []int) (impl.Plan, int)) []somePlan {
	t.Helper()
	m := &maker{state: uint64(seed)}
	var list []somePlan
	for len(list) < count {
		db := m.db(t, 6)
		p, width := plan(m, widthsOf(db))
		if got := impl.PlanWidth(p, widthsOf(db)); got != width {
			t.Fatalf("PlanWidth(%v, %v) = %d, want %d", p, widthsOf(db), got, width)
		}
		if isSmall(t, p, db) {
			list = append(list, somePlan{p, db, widthsOf(db)})
		}
	}
	return list
}

// isSmall reports whether no table on the way to the result of a plan has more than MaxRows rows.
func isSmall(t *testing.T, p impl.Plan, db []impl.Table) bool {
	t.Helper()
	_, most := slowRows(t, p, db)
	return most <= impl.MaxRows
}
