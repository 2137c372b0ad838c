package tests

import (
	"slices"
	"testing"

	"loop.example/queryoptimizer/impl"
)

// withKids returns a plan with other kids.
func withKids(p impl.Plan, kids []impl.Plan) impl.Plan {
	return impl.Plan{Kind: p.Kind, Table: p.Table, Exprs: p.Exprs, Cols: p.Cols, Kids: kids}
}

// slowFold returns a plan in which the parts that are a view are replaced by scans, and their number, by the words of the document.
func slowFold(p impl.Plan, view impl.Plan, table int) (impl.Plan, int) {
	if equal(p, view) {
		return scan(table), 1
	}
	var kids []impl.Plan
	total := 0
	for _, kid := range p.Kids {
		folded, count := slowFold(kid, view, table)
		kids = append(kids, folded)
		total += count
	}
	return withKids(p, kids), total
}

// slowExpand returns a plan in which the scans of a table are replaced by a view, by the words of the document.
func slowExpand(p impl.Plan, view impl.Plan, table int) impl.Plan {
	if equal(p, scan(table)) {
		return view
	}
	var kids []impl.Plan
	for _, kid := range p.Kids {
		kids = append(kids, slowExpand(kid, view, table))
	}
	return withKids(p, kids)
}

// viewCase is a view that is stored in the last table, and plans that scan this table or not.
type viewCase struct {
	db       []impl.Table
	widths   []int
	view     impl.Plan
	table    int
	using    impl.Plan
	expanded impl.Plan
}

// viewCases returns views that do not scan the table in which they are stored; no table on the way to the results of them or of the plans has more than MaxRows rows.
func viewCases(t *testing.T, seed int, count int) []viewCase {
	t.Helper()
	m := &maker{state: uint64(seed)}
	var list []viewCase
	for len(list) < count {
		db := m.db(t, 6)
		db = db[:min(len(db), impl.MaxTables-1)]
		view, width := m.rewritable(widthsOf(db), m.below(4))
		c := viewCase{view: view, table: len(db)}
		c.db = append(db, tableOf(t, width, m.rows(width, m.below(5))))
		c.widths = widthsOf(c.db)
		c.using, _ = m.rewritable(c.widths, m.below(4))
		c.expanded = slowExpand(c.using, c.view, c.table)
		if impl.PlanWidth(c.expanded, c.widths) != 0 && isSmall(t, c.expanded, c.db) && isSmall(t, c.using, c.db) && isSmall(t, c.view, c.db) {
			list = append(list, c)
		}
	}
	return list
}

// foldedView returns FoldView, and fails if there is no valid result.
func foldedView(t *testing.T, p impl.Plan, view impl.Plan, widths []int, table int) (impl.Plan, int) {
	t.Helper()
	q, count := impl.FoldView(p, view, widths, table)
	if count < 0 || impl.PlanWidth(q, widths) == 0 || impl.PlanWidth(q, widths) != impl.PlanWidth(p, widths) {
		t.Fatalf("FoldView(%v, %v, %v, %d) = %v, %d", p, view, widths, table, q, count)
	}
	return q, count
}

// expandedView returns ExpandView, and fails if there is no valid result.
func expandedView(t *testing.T, p impl.Plan, view impl.Plan, widths []int, table int) impl.Plan {
	t.Helper()
	q, ok := impl.ExpandView(p, view, widths, table)
	if !ok || impl.PlanWidth(q, widths) == 0 || impl.PlanWidth(q, widths) != impl.PlanWidth(p, widths) {
		t.Fatalf("ExpandView(%v, %v, %v, %d) = %v, %v", p, view, widths, table, q, ok)
	}
	return q
}

// materialized returns Materialize, and fails if there is no valid result.
func materialized(t *testing.T, db []impl.Table, view impl.Plan, table int) []impl.Table {
	t.Helper()
	result, ok := impl.Materialize(db, view, table)
	if !ok || len(result) != len(db) || slices.ContainsFunc(result, func(x impl.Table) bool { return !impl.ValidTable(x) }) {
		t.Fatalf("Materialize(%v, %v, %d) = %v, %v", db, view, table, result, ok)
	}
	return result
}

// refusesFold fails unless FoldView has no result.
func refusesFold(t *testing.T, p impl.Plan, view impl.Plan, widths []int, table int) {
	t.Helper()
	if q, count := impl.FoldView(p, view, widths, table); count != -1 || !equal(q, impl.Plan{}) {
		t.Errorf("FoldView(%v, %v, %v, %d) = %v, %d", p, view, widths, table, q, count)
	}
}

// refusesExpand fails unless ExpandView has no result.
func refusesExpand(t *testing.T, p impl.Plan, view impl.Plan, widths []int, table int) {
	t.Helper()
	if q, ok := impl.ExpandView(p, view, widths, table); ok || !equal(q, impl.Plan{}) {
		t.Errorf("ExpandView(%v, %v, %v, %d) = %v, %v", p, view, widths, table, q, ok)
	}
}

// refusesMaterialize fails unless Materialize has no result.
func refusesMaterialize(t *testing.T, db []impl.Table, view impl.Plan, table int) {
	t.Helper()
	if result, ok := impl.Materialize(db, view, table); ok || len(result) != 0 {
		t.Errorf("Materialize(%v, %v, %d) = %v, %v", db, view, table, result, ok)
	}
}
