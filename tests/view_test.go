package tests

import (
	"slices"
	"testing"

	"loop.example/queryoptimizer/impl"
)

func TestFoldView(t *testing.T) {
	widths := []int{2, 1, 2, 1}
	x, y := scan(0), scan(1)
	e := op(impl.LessThan, col(0), lit(5))
	view := filter(e, x)
	for _, c := range []struct {
		name  string
		p     impl.Plan
		view  impl.Plan
		table int
		want  impl.Plan
		count int
	}{
		{"the whole plan", view, view, 2, scan(2), 1},
		{"a part", distinct(view), view, 2, distinct(scan(2)), 1},
		{"twice", union(view, distinct(view)), view, 2, union(scan(2), distinct(scan(2))), 2},
		{"once of two filters", filter(e, view), view, 2, filter(e, scan(2)), 1},
		{"a filter above and below", union(filter(e, view), filter(e, filter(e, view))), filter(e, view), 2, union(scan(2), filter(e, scan(2))), 2},
		{"a union of itself", union(union(view, view), view), union(view, view), 2, union(scan(2), view), 1},
		{"no part", distinct(x), view, 2, distinct(x), 0},
		{"another constant", filter(op(impl.LessThan, col(0), lit(6)), x), view, 2, filter(op(impl.LessThan, col(0), lit(6)), x), 0},
		{"another sign", filter(op(impl.LessThan, col(0), lit(-5)), x), view, 2, filter(op(impl.LessThan, col(0), lit(-5)), x), 0},
		{"null instead of 0", filter(val(null), x), filter(lit(0), x), 2, filter(val(null), x), 0},
		{"0 instead of null", union(filter(lit(0), x), filter(val(null), x)), filter(val(null), x), 2, union(filter(lit(0), x), scan(2)), 1},
		{"exchanged kids of an expression", filter(equals(1, 0), x), filter(equals(0, 1), x), 2, filter(equals(1, 0), x), 0},
		{"exchanged kids", union(x, distinct(x)), union(distinct(x), x), 2, union(x, distinct(x)), 0},
		{"a LeftJoin instead of a Join", leftJoin(lit(1), y, y), join(lit(1), y, y), 2, leftJoin(lit(1), y, y), 0},
		{"another table", union(distinct(scan(2)), distinct(x)), distinct(x), 2, union(distinct(scan(2)), scan(2)), 1},
		{"a scan", union(x, distinct(x)), x, 2, union(scan(2), distinct(scan(2))), 2},
		{"the scan of the table", union(scan(2), x), scan(2), 2, union(scan(2), x), 1},
		{"a view that scans the table", filter(e, filter(e, scan(2))), filter(e, scan(2)), 2, filter(e, scan(2)), 1},
		{"a plan that scans the table", join(lit(1), scan(2), view), view, 2, join(lit(1), scan(2), scan(2)), 1},
		{"the first table", distinct(filter(e, scan(2))), filter(e, scan(2)), 0, distinct(x), 1},
		{"a view without tables of its width elsewhere", join(lit(1), group(x), y), group(x), 3, join(lit(1), scan(3), y), 1},
		{"columns of a Group", union(group(x, 0), group(x, 1)), group(x, 1), 2, union(group(x, 0), scan(2)), 1},
		{"more columns of a Group", group(group(x), 0), group(x), 1, group(scan(1), 0), 1},
		{"fewer expressions of a Project", join(lit(1), project(x, col(0)), project(x, col(0), col(1))), project(x, col(0)), 1, join(lit(1), scan(1), project(x, col(0), col(1))), 1},
		{"a projection above its kid", project(project(x, col(0), col(1)), col(0), col(1)), project(x, col(0), col(1)), 2, project(scan(2), col(0), col(1)), 1},
	} {
		got, count := foldedView(t, c.p, c.view, widths, c.table)
		if !equal(got, c.want) || count != c.count {
			t.Errorf("%s: FoldView = %v, %d, want %v, %d", c.name, got, count, c.want, c.count)
		}
	}
	empty := impl.Plan{Kind: impl.Scan, Exprs: []impl.Expr{}, Cols: []int{}, Kids: []impl.Plan{}}
	if got, count := foldedView(t, distinct(empty), distinct(scan(0)), widths, 2); count != 1 || !equal(got, scan(2)) {
		t.Errorf("FoldView distinguishes nil slices and empty slices: %v, %d", got, count)
	}
}

func TestInvalidViews(t *testing.T) {
	widths := []int{2, 1, 2}
	view := distinct(scan(0))
	db := []impl.Table{table(t, 2, "1 2"), table(t, 1, "3"), table(t, 2, "4 5")}
	refused := func(p impl.Plan, view impl.Plan, widths []int, table int) {
		t.Helper()
		refusesFold(t, p, view, widths, table)
		refusesExpand(t, p, view, widths, table)
	}
	for _, n := range []int{-1, 1, 3, 4, -1 << 63, 1<<63 - 1} {
		refused(scan(0), view, widths, n)
		refusesMaterialize(t, db, view, n)
	}
	for _, n := range []int{0, 2} {
		refused(scan(0), group(scan(0)), widths, n)
		refused(scan(0), project(scan(0), columns(2)[0], lit(1), lit(2)), widths, n)
		refusesMaterialize(t, db, group(scan(0)), n)
	}
	for i, bad := range invalidPlans() {
		refused(bad, view, []int{2, 1}, 0)
		for n := range 2 {
			refused(scan(0), bad, []int{2, 1}, n)
			refusesMaterialize(t, db[:2], bad, n)
		}
		if _, count := impl.FoldView(bad, bad, []int{2, 1}, 0); count != -1 {
			t.Errorf("FoldView of the invalid plan %d and itself = %d", i, count)
		}
	}
	for _, wrong := range [][]int{nil, {0}, {-1}, {7}, {2, 0}, {2, 7}, {2, 2, 2, 2, 2}} {
		refused(scan(0), scan(0), wrong, 0)
		refused(scan(0), scan(0), wrong, 1)
		refused(scan(0), distinct(scan(0)), wrong, 1)
	}
	deep := stacked(100000, scan(0))
	refused(deep, view, widths, 2)
	refused(scan(0), deep, widths, 2)
	refusesMaterialize(t, db, deep, 2)
}

func TestExpandView(t *testing.T) {
	widths := []int{2, 1, 2}
	x, v := scan(0), scan(2)
	view := filter(col(1), x)
	for _, c := range []struct {
		name string
		p    impl.Plan
		view impl.Plan
		want impl.Plan
	}{
		{"the whole plan", v, view, view},
		{"no scan of the table", distinct(x), view, distinct(x)},
		{"twice", union(v, distinct(v)), view, union(view, distinct(view))},
		{"other tables", join(lit(1), scan(1), union(v, x)), view, join(lit(1), scan(1), union(view, x))},
		{"a view that is in the plan already", union(view, v), view, union(view, view)},
		{"a view that is a scan", filter(col(0), v), x, filter(col(0), x)},
		{"MaxDepth levels", stacked(impl.MaxDepth-1, v), view, stacked(impl.MaxDepth-1, view)},
		{"MaxDepth levels of the view", v, stacked(impl.MaxDepth, x), stacked(impl.MaxDepth, x)},
		{"MaxDepth levels of both", stacked(3, v), stacked(impl.MaxDepth-3, x), stacked(impl.MaxDepth, x)},
		{"MaxDepth levels beside the view", union(stacked(impl.MaxDepth-1, x), v), stacked(impl.MaxDepth-1, x), union(stacked(impl.MaxDepth-1, x), stacked(impl.MaxDepth-1, x))},
		{"MaxDepth levels without the view", stacked(impl.MaxDepth, x), stacked(impl.MaxDepth, x), stacked(impl.MaxDepth, x)},
	} {
		if got := expandedView(t, c.p, c.view, widths, 2); !equal(got, c.want) {
			t.Errorf("%s: ExpandView = %v, want %v", c.name, got, c.want)
		}
	}
	refusesExpand(t, stacked(impl.MaxDepth, v), view, widths, 2)
	refusesExpand(t, stacked(1, v), stacked(impl.MaxDepth, x), widths, 2)
	refusesExpand(t, stacked(4, v), stacked(impl.MaxDepth-3, x), widths, 2)
	refusesExpand(t, union(x, distinct(v)), stacked(impl.MaxDepth-1, x), widths, 2)
	refusesExpand(t, thicketOf(impl.MaxDepth, v), thicket(impl.MaxDepth), widths, 2)
	for _, self := range []impl.Plan{v, distinct(v), filter(col(0), v), union(x, v), union(v, x), distinct(union(distinct(x), distinct(v)))} {
		refusesExpand(t, x, self, widths, 2)
		refusesExpand(t, v, self, widths, 2)
	}
}

// thicketOf returns a plan with a number of levels of kids and the same plan in all places without kids.
func thicketOf(levels int, p impl.Plan) impl.Plan {
	return slowExpand(thicket(levels), p, 0)
}

func TestMaterialize(t *testing.T) {
	db := []impl.Table{table(t, 2, "null 1", "1 2", "1 2", "3 null"), table(t, 1, "7"), table(t, 2, "9 9")}
	most := tableOf(t, 1, numbered(0, impl.MaxRows))
	for _, c := range []struct {
		name  string
		db    []impl.Table
		view  impl.Plan
		table int
		want  []string
	}{
		{"a filter", db, filter(col(1), scan(0)), 2, []string{"null 1", "1 2", "1 2"}},
		{"a scan", db, scan(0), 2, []string{"null 1", "1 2", "1 2", "3 null"}},
		{"a group", db, group(scan(0), 0), 2, []string{"null 1", "1 2", "3 1"}},
		{"no rows", db, filter(lit(0), scan(0)), 2, nil},
		{"no rows of a group", []impl.Table{{Width: 3}, db[1]}, group(scan(0)), 1, nil},
		{"the first table", db, distinct(join(lit(1), scan(1), scan(1))), 0, []string{"7 7"}},
		{"the table in the middle", db, project(scan(2), col(1)), 1, []string{"9"}},
		{"too many rows", []impl.Table{most, table(t, 1, "1")}, union(scan(0), scan(0)), 1, nil},
	} {
		got := materialized(t, c.db, c.view, c.table)
		want := slices.Clone(c.db)
		want[c.table] = table(t, c.db[c.table].Width, c.want...)
		if !equal(got, want) {
			t.Errorf("%s: Materialize = %v, want %v", c.name, got, want)
		}
	}
	for _, self := range []impl.Plan{scan(2), distinct(scan(2)), union(scan(0), filter(col(0), scan(2)))} {
		refusesMaterialize(t, db, self, 2)
	}
	refusesMaterialize(t, []impl.Table{db[1]}, scan(0), 0)
	for _, bad := range invalidTables() {
		refusesMaterialize(t, []impl.Table{db[1], db[1], bad}, scan(0), 1)
		refusesMaterialize(t, []impl.Table{bad, db[1]}, scan(0), 1)
		refusesMaterialize(t, []impl.Table{db[1], bad}, scan(0), 1)
	}
	refusesMaterialize(t, nil, scan(0), 0)
	refusesMaterialize(t, []impl.Table{db[1], db[1], db[1], db[1], db[1]}, scan(0), 1)
}

func TestP131ExpandingAViewInvertsFolding(t *testing.T) {
	folded, several := 0, 0
	for _, c := range viewCases(t, 131, 1500) {
		q, count := foldedView(t, c.expanded, c.view, c.widths, c.table)
		if want, total := slowFold(c.expanded, c.view, c.table); !equal(q, want) || count != total {
			t.Fatalf("FoldView(%v, %v) = %v, %d, want %v, %d", c.expanded, c.view, q, count, want, total)
		}
		if got := expandedView(t, q, c.view, c.widths, c.table); !equal(got, c.expanded) {
			t.Fatalf("ExpandView(%v, %v) = %v, want %v", q, c.view, got, c.expanded)
		}
		if count > 0 {
			folded++
		}
		if count > 1 {
			several++
		}
	}
	if folded < 300 || several < 50 {
		t.Errorf("only %d plans have the view, only %d several times", folded, several)
	}
}

func TestP131PartsOfAPlanAreViews(t *testing.T) {
	for _, c := range rewritablePlans(t, 1310, 400) {
		for _, path := range pathsOf(c.p) {
			view, _ := impl.PlanAt(c.p, path)
			widths := append(slices.Clone(c.widths[:min(len(c.widths), impl.MaxTables-1)]), 0)
			table := len(widths) - 1
			widths[table] = impl.PlanWidth(view, c.widths)
			if impl.PlanWidth(c.p, widths) == 0 || slices.Contains(impl.TablesOf(c.p, widths), table) {
				continue
			}
			q, count := foldedView(t, c.p, view, widths, table)
			if want, total := slowFold(c.p, view, table); count < 1 || !equal(q, want) || count != total {
				t.Fatalf("FoldView(%v, %v) = %v, %d, want %v, %d", c.p, view, q, count, want, total)
			}
			if got := expandedView(t, q, view, widths, table); !equal(got, c.p) {
				t.Fatalf("ExpandView(%v, %v) = %v, want %v", q, view, got, c.p)
			}
		}
	}
}

func TestP132FoldingCountsTheReplacedParts(t *testing.T) {
	for _, c := range viewCases(t, 132, 500) {
		if q, count := foldedView(t, c.view, c.view, c.widths, c.table); count != 1 || !equal(q, scan(c.table)) {
			t.Fatalf("FoldView(%v) of itself = %v, %d", c.view, q, count)
		}
		q, count := foldedView(t, c.using, c.view, c.widths, c.table)
		if want, total := slowFold(c.using, c.view, c.table); !equal(q, want) || count != total {
			t.Fatalf("FoldView(%v, %v) = %v, %d, want %v, %d", c.using, c.view, q, count, want, total)
		}
		if count == 0 && !equal(q, c.using) {
			t.Fatalf("FoldView(%v, %v) = %v without replaced parts", c.using, c.view, q)
		}
	}
}

func TestP132OtherPlansAreNoViews(t *testing.T) {
	widths := []int{2, 1}
	m := &maker{state: 1320}
	for range 30 {
		view, width := m.rewritable(widths, 2)
		all := append(slices.Clone(widths), width)
		for _, other := range otherPlans(view) {
			if impl.PlanWidth(other, all) == 0 {
				continue
			}
			q, count := foldedView(t, other, view, all, 2)
			if want, total := slowFold(other, view, 2); !equal(q, want) || count != total || equal(q, scan(2)) && !equal(other, scan(2)) {
				t.Fatalf("FoldView(%v, %v) = %v, %d, want %v, %d", other, view, q, count, want, total)
			}
		}
	}
}

func TestP133ViewsAnswerQueries(t *testing.T) {
	some := 0
	for _, c := range viewCases(t, 133, 800) {
		db := materialized(t, c.db, c.view, c.table)
		q, count := foldedView(t, c.expanded, c.view, c.widths, c.table)
		if got, want := rowsOf(t, q, db), rowsOf(t, c.expanded, c.db); !equal(got, want) {
			t.Fatalf("the result of %v is %v, that of %v is %v, for %v", q, got, c.expanded, want, c.db)
		}
		if count > 0 && len(rowsOf(t, q, db)) > 0 {
			some++
		}
	}
	if some < 100 {
		t.Errorf("only %d plans with the view have rows", some)
	}
}

func TestP134ExpandedViewsHaveTheResultOfTheView(t *testing.T) {
	some := 0
	for _, c := range viewCases(t, 134, 800) {
		db := materialized(t, c.db, c.view, c.table)
		q := expandedView(t, c.using, c.view, c.widths, c.table)
		if !equal(q, c.expanded) {
			t.Fatalf("ExpandView(%v, %v) = %v, want %v", c.using, c.view, q, c.expanded)
		}
		if got, want := rowsOf(t, c.using, db), rowsOf(t, q, c.db); !equal(got, want) {
			t.Fatalf("the result of %v is %v, that of %v is %v, for %v", c.using, got, q, want, c.db)
		}
		if !equal(c.using, c.expanded) && len(rowsOf(t, q, c.db)) > 0 {
			some++
		}
	}
	if some < 100 {
		t.Errorf("only %d plans that scan the table have rows", some)
	}
}

func TestP135OnlyOneTableIsMaterialized(t *testing.T) {
	changed := 0
	for _, c := range viewCases(t, 135, 500) {
		got := materialized(t, c.db, c.view, c.table)
		for i, x := range got {
			if i != c.table && !equal(x, c.db[i]) {
				t.Fatalf("Materialize(%v, %v, %d) changes the table %d to %v", c.db, c.view, c.table, i, x)
			}
		}
		if result, ok := impl.EvalPlan(c.view, c.db); !ok || !equal(got[c.table], result) {
			t.Fatalf("Materialize(%v, %v, %d) = %v, want %v", c.db, c.view, c.table, got, result)
		}
		if again := materialized(t, got, c.view, c.table); !equal(again, got) {
			t.Fatalf("Materialize of %v = %v", got, again)
		}
		if !equal(got[c.table], c.db[c.table]) && len(got[c.table].Rows) > 0 {
			changed++
		}
	}
	if changed < 100 {
		t.Errorf("only %d tables get rows", changed)
	}
}

func TestViewsOfViews(t *testing.T) {
	widths := []int{2, 2, 2}
	inner := filter(op(impl.LessThan, col(0), lit(3)), scan(0))
	outer := distinct(scan(1))
	whole := distinct(inner)
	p := filter(col(1), union(whole, inner))
	once, count := foldedView(t, p, inner, widths, 1)
	if want := filter(col(1), union(outer, scan(1))); count != 2 || !equal(once, want) {
		t.Errorf("FoldView of the inner view = %v, %d, want %v", once, count, want)
	}
	twice, count := foldedView(t, once, outer, widths, 2)
	if want := filter(col(1), union(scan(2), scan(1))); count != 1 || !equal(twice, want) {
		t.Errorf("FoldView of the outer view = %v, %d, want %v", twice, count, want)
	}
	if got, count := foldedView(t, p, outer, widths, 2); count != 0 || !equal(got, p) {
		t.Errorf("FoldView of the outer view before the inner one = %v, %d", got, count)
	}
	if got := expandedView(t, expandedView(t, twice, outer, widths, 2), inner, widths, 1); !equal(got, p) {
		t.Errorf("ExpandView of both views = %v, want %v", got, p)
	}
	db := []impl.Table{table(t, 2, "1 2", "1 2", "2 0", "5 5"), table(t, 2, "9 9"), {Width: 2}}
	stored := materialized(t, materialized(t, db, inner, 1), outer, 2)
	if want := []impl.Table{db[0], table(t, 2, "1 2", "1 2", "2 0"), table(t, 2, "1 2", "2 0")}; !equal(stored, want) {
		t.Errorf("Materialize of both views = %v, want %v", stored, want)
	}
	sameResult(t, p, twice, stored)
}
