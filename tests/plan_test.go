package tests

import (
	"slices"
	"testing"

	"loop.example/queryoptimizer/impl"
)

func TestPlanWidth(t *testing.T) {
	widths := []int{2, 1}
	for i, want := range []int{1, 2, 2, 3, 3, 2, 2, 2} {
		if p := basicPlans()[i]; impl.PlanWidth(p, widths) != want {
			t.Errorf("PlanWidth(%v) = %d, want %d", p, impl.PlanWidth(p, widths), want)
		}
	}
	for _, c := range []struct {
		p    impl.Plan
		want int
	}{
		{scan(0), 2}, {project(scan(0), lit(1)), 1}, {project(scan(1), slices.Repeat([]impl.Expr{col(0)}, 6)...), 6},
		{join(lit(1), scan(1), scan(1)), 2}, {group(scan(0)), 1}, {group(scan(0), 0, 1), 3}, {group(group(scan(0), 0, 1), 2), 2},
		{filter(nested(impl.MaxLevels, col(1)), scan(0)), 2}, {filter(val(null), scan(1)), 1},
		{union(project(scan(0), col(1)), scan(1)), 1},
		{impl.Plan{Kind: impl.Scan, Exprs: []impl.Expr{}, Cols: []int{}, Kids: []impl.Plan{}}, 2},
		{impl.Plan{Kind: impl.Distinct, Exprs: []impl.Expr{}, Cols: []int{}, Kids: []impl.Plan{scan(0)}}, 2},
	} {
		if got := impl.PlanWidth(c.p, widths); got != c.want {
			t.Errorf("PlanWidth(%v) = %d, want %d", c.p, got, c.want)
		}
	}
}

func TestInvalidPlansHaveNoResult(t *testing.T) {
	widths := []int{2, 1}
	db := []impl.Table{table(t, 2, "1 2"), table(t, 1, "3")}
	for i, p := range invalidPlans() {
		if impl.PlanWidth(p, widths) != 0 || impl.PlanSize(p, widths) != 0 || impl.TablesOf(p, widths) != nil {
			t.Errorf("the invalid plan %d has a width, a size or tables", i)
		}
		if x, ok := impl.EvalPlan(p, db); ok || !equal(x, impl.Table{}) {
			t.Errorf("EvalPlan of the invalid plan %d = %v, %v", i, x, ok)
		}
	}
	for _, p := range basicPlans() {
		if x, ok := impl.EvalPlan(p, db); !ok || !impl.ValidTable(x) || impl.PlanSize(p, widths) == 0 || len(impl.TablesOf(p, widths)) == 0 {
			t.Errorf("EvalPlan(%v) = %v, %v", p, x, ok)
		}
	}
}

func TestInvalidWidthsAndTablesHaveNoResult(t *testing.T) {
	p := scan(0)
	for _, widths := range [][]int{nil, {}, {0}, {-1}, {7}, {1, 0}, {1, 7}, {1, 1, 1, 1, 1}} {
		if impl.PlanWidth(p, widths) != 0 || impl.PlanSize(p, widths) != 0 || impl.TablesOf(p, widths) != nil {
			t.Errorf("a plan for the widths %v has a width, a size or tables", widths)
		}
	}
	for _, widths := range [][]int{{1}, {6}, {1, 6, 2, 3}} {
		if impl.PlanWidth(p, widths) != widths[0] || impl.PlanSize(p, widths) != 1 || !equal(impl.TablesOf(p, widths), []int{0}) {
			t.Errorf("PlanWidth, PlanSize or TablesOf for the widths %v", widths)
		}
	}
	good := table(t, 1, "1")
	for _, db := range [][]impl.Table{nil, {}, {good, good, good, good, good}} {
		if x, ok := impl.EvalPlan(p, db); ok || !equal(x, impl.Table{}) {
			t.Errorf("EvalPlan for %d tables = %v, %v", len(db), x, ok)
		}
	}
	for _, bad := range invalidTables() {
		for _, db := range [][]impl.Table{{bad}, {bad, good}, {good, bad}, {good, good, good, bad}} {
			if x, ok := impl.EvalPlan(p, db); ok || !equal(x, impl.Table{}) {
				t.Errorf("EvalPlan for the tables %v = %v, %v", db, x, ok)
			}
		}
	}
	if x, ok := impl.EvalPlan(scan(3), []impl.Table{good, good, good, good}); !ok || !equal(x, good) {
		t.Errorf("EvalPlan for four tables = %v, %v", x, ok)
	}
}

func TestLimitsOfPlans(t *testing.T) {
	widths := []int{6, 3, 1}
	wide := project(scan(2), slices.Repeat([]impl.Expr{col(0)}, 6)...)
	for _, c := range []struct {
		name string
		p    impl.Plan
		want int
	}{
		{"a Join of the width 6", join(col(5), scan(1), scan(1)), 6},
		{"a Join of the width 7", join(col(5), scan(0), scan(2)), 0},
		{"a Join of the width 7", join(col(5), scan(2), scan(0)), 0},
		{"a LeftJoin of the width 6", leftJoin(col(5), scan(1), scan(1)), 6},
		{"a LeftJoin of the width 7", leftJoin(col(5), scan(2), scan(0)), 0},
		{"a column of the first kid alone", join(col(2), scan(1), scan(2)), 4},
		{"the column after both kids", join(col(4), scan(1), scan(2)), 0},
		{"a Project to 6 expressions", wide, 6},
		{"a Project to 7 expressions", project(scan(2), slices.Repeat([]impl.Expr{col(0)}, 7)...), 0},
		{"a Group by 5 columns", group(scan(0), 0, 1, 2, 4, 5), 6},
		{"a Group by 6 columns", group(scan(0), 0, 1, 2, 3, 4, 5), 0},
		{"MaxDepth levels", stacked(impl.MaxDepth, scan(1)), 3},
		{"MaxDepth levels and one more", stacked(impl.MaxDepth+1, scan(1)), 0},
		{"MaxDepth levels with two kids", thicket(impl.MaxDepth), 6},
		{"a first kid with MaxDepth levels", union(stacked(impl.MaxDepth, scan(0)), scan(0)), 0},
		{"a second kid with MaxDepth levels", union(scan(0), stacked(impl.MaxDepth, scan(0))), 0},
		{"a second kid with one level less", union(scan(0), stacked(impl.MaxDepth-1, scan(0))), 6},
		{"an expression with MaxLevels levels", filter(nested(impl.MaxLevels, col(5)), scan(0)), 6},
		{"an expression with MaxLevels levels and one more", filter(nested(impl.MaxLevels+1, col(5)), scan(0)), 0},
	} {
		if got := impl.PlanWidth(c.p, widths); got != c.want {
			t.Errorf("PlanWidth of %s = %d, want %d", c.name, got, c.want)
		}
	}
	if got := impl.PlanSize(thicket(impl.MaxDepth), widths); got != 511 {
		t.Errorf("PlanSize of a plan with all parts = %d", got)
	}
}

func TestP026ResultsHaveTheWidthOfThePlan(t *testing.T) {
	for _, c := range somePlans(t, 26, 400) {
		x, ok := impl.EvalPlan(c.p, c.db)
		if !ok || !impl.ValidTable(x) || x.Width != impl.PlanWidth(c.p, c.widths) {
			t.Fatalf("EvalPlan(%v, %v) = %v, %v", c.p, c.db, x, ok)
		}
	}
	empty := []impl.Table{{Width: 2}, {Width: 1}}
	for _, p := range basicPlans() {
		if x, ok := impl.EvalPlan(p, empty); !ok || x.Width != impl.PlanWidth(p, []int{2, 1}) || len(x.Rows) > 0 {
			t.Errorf("EvalPlan(%v) for tables without rows = %v, %v", p, x, ok)
		}
	}
}

func TestPlansHaveTheRowsOfTheDocument(t *testing.T) {
	m := &maker{state: 5}
	check := func(p impl.Plan, db []impl.Table) int {
		list, most := slowRows(t, p, db)
		want := tableOf(t, impl.PlanWidth(p, widthsOf(db)), list)
		if got, ok := impl.EvalPlan(p, db); !ok || !equal(got, want) {
			t.Fatalf("EvalPlan(%v, %v) = %v, %v, want %v", p, db, got, ok, want)
		}
		return most
	}
	for _, c := range somePlans(t, 5, 600) {
		check(c.p, c.db)
	}
	tooMany := 0
	for range 100 {
		db := m.db(t, 60)
		p, _ := m.plan(widthsOf(db), 3)
		if check(p, db) > impl.MaxRows {
			tooMany++
		}
	}
	if tooMany < 5 {
		t.Errorf("only %d plans have a part with more than MaxRows rows", tooMany)
	}
}

func TestP027AScanReturnsItsTable(t *testing.T) {
	m := &maker{state: 27}
	for range 50 {
		db := m.db(t, 8)
		for i, want := range db {
			if got, ok := impl.EvalPlan(scan(i), db); !ok || !equal(got, want) {
				t.Fatalf("EvalPlan(scan(%d), %v) = %v, %v", i, db, got, ok)
			}
		}
	}
	full := tableOf(t, 1, numbered(0, impl.MaxRows))
	if got, ok := impl.EvalPlan(scan(1), []impl.Table{{Width: 2}, full}); !ok || !equal(got, full) {
		t.Errorf("EvalPlan of the scan of a table with MaxRows rows = %v, %v", got, ok)
	}
}

func TestFilter(t *testing.T) {
	db := []impl.Table{table(t, 2, "null 1", "null null", "0 1", "1 null", "2 2", "2 2", "-3 0")}
	for _, c := range []struct {
		e    impl.Expr
		want []string
	}{
		{col(0), []string{"-3 0", "1 null", "2 2", "2 2"}}, {op(impl.NotExpr, col(0)), []string{"0 1"}},
		{op(impl.LessThan, col(0), lit(2)), []string{"-3 0", "0 1", "1 null"}}, {equals(0, 1), []string{"2 2", "2 2"}},
		{op(impl.NullTest, col(0)), []string{"null null", "null 1"}}, {val(null), nil}, {lit(0), nil},
	} {
		if got := rowsOf(t, filter(c.e, scan(0)), db); !equal(got, rows(c.want...)) {
			t.Errorf("the rows for which %v is true = %v, want %v", c.e, got, c.want)
		}
	}
}

func TestProject(t *testing.T) {
	db := []impl.Table{table(t, 2, "null 1", "5 2", "3 2", "5 2")}
	for _, c := range []struct {
		list []impl.Expr
		want []string
	}{
		{[]impl.Expr{col(1)}, []string{"1", "2", "2", "2"}},
		{[]impl.Expr{col(1), col(0), col(1)}, []string{"1 null 1", "2 3 2", "2 5 2", "2 5 2"}},
		{[]impl.Expr{lit(7), op(impl.Minus, col(0), col(1))}, []string{"7 null", "7 1", "7 3", "7 3"}},
	} {
		if got := rowsOf(t, project(scan(0), c.list...), db); !equal(got, rows(c.want...)) {
			t.Errorf("the projection to %v = %v, want %v", c.list, got, c.want)
		}
	}
}

func TestJoins(t *testing.T) {
	db := []impl.Table{table(t, 1, "null", "1", "1", "2", "3"), table(t, 2, "null 4", "1 5", "1 6", "3 7", "3 7"), {Width: 2}, {Width: 1}}
	for _, c := range []struct {
		p    impl.Plan
		want []string
	}{
		{join(equals(0, 1), scan(0), scan(1)), []string{"1 1 5", "1 1 5", "1 1 6", "1 1 6", "3 3 7", "3 3 7"}},
		{join(op(impl.AndExpr, equals(0, 1), op(impl.LessThan, col(2), lit(6))), scan(0), scan(1)), []string{"1 1 5", "1 1 5"}},
		{join(equals(1, 2), scan(1), scan(0)), nil},
		{join(equals(0, 2), scan(1), scan(0)), []string{"1 5 1", "1 5 1", "1 6 1", "1 6 1", "3 7 3", "3 7 3"}},
		{join(lit(1), scan(0), scan(2)), nil}, {join(lit(1), scan(3), scan(1)), nil},
		{join(op(impl.NullTest, equals(0, 1)), distinct(scan(0)), filter(op(impl.NullTest, col(0)), scan(1))), []string{"null null 4", "1 null 4", "2 null 4", "3 null 4"}},
	} {
		if got := rowsOf(t, c.p, db); !equal(got, rows(c.want...)) {
			t.Errorf("the rows of %v = %v, want %v", c.p, got, c.want)
		}
	}
}

func TestLeftJoins(t *testing.T) {
	db := []impl.Table{table(t, 1, "null", "1", "1", "2", "3"), table(t, 2, "null 4", "1 5", "1 6", "3 7", "3 7"), {Width: 2}, {Width: 1}}
	alone := []string{"null null null", "1 null null", "1 null null", "2 null null", "3 null null"}
	for _, c := range []struct {
		name string
		p    impl.Plan
		want []string
	}{
		{"some rows have no match", leftJoin(equals(0, 1), scan(0), scan(1)), []string{"null null null", "1 1 5", "1 1 5", "1 1 6", "1 1 6", "2 null null", "3 3 7", "3 3 7"}},
		{"every row has a match", leftJoin(equals(0, 2), filter(col(0), scan(1)), scan(0)), []string{"1 5 1", "1 5 1", "1 6 1", "1 6 1", "3 7 3", "3 7 3"}},
		{"the condition is false", leftJoin(lit(0), scan(0), scan(1)), alone},
		{"the condition is null", leftJoin(val(null), scan(0), scan(1)), alone},
		{"the second kid has no rows", leftJoin(lit(1), scan(0), scan(2)), alone},
		{"the first kid has no rows", leftJoin(lit(1), scan(3), scan(1)), nil},
		{"a match is a row of nulls", leftJoin(op(impl.NullTest, equals(0, 1)), rowsWith(2), filter(op(impl.NullTest, col(0)), scan(0))), []string{"2 null"}},
		{"the condition asks for nulls", leftJoin(op(impl.NullTest, col(1)), scan(0), scan(1)), []string{"null null 4", "1 null 4", "1 null 4", "2 null 4", "3 null 4"}},
	} {
		if got := rowsOf(t, c.p, db); !equal(got, rows(c.want...)) {
			t.Errorf("%s: the rows are %v, want %v", c.name, got, c.want)
		}
	}
}

// rowsWith returns a plan for the rows of the table 0 with a number in the first column.
func rowsWith(n int) impl.Plan {
	return filter(op(impl.EqualTo, col(0), lit(n)), scan(0))
}

func TestUnionAndDistinct(t *testing.T) {
	db := []impl.Table{table(t, 1, "null", "null", "1", "2"), table(t, 1, "null", "1", "1", "0"), {Width: 1}}
	for _, c := range []struct {
		p    impl.Plan
		want []string
	}{
		{union(scan(0), scan(1)), []string{"null", "null", "null", "0", "1", "1", "1", "2"}},
		{union(scan(0), scan(2)), []string{"null", "null", "1", "2"}}, {union(scan(2), scan(0)), []string{"null", "null", "1", "2"}},
		{union(scan(2), scan(2)), nil}, {distinct(scan(2)), nil}, {distinct(scan(0)), []string{"null", "1", "2"}},
		{distinct(union(scan(1), scan(0))), []string{"null", "0", "1", "2"}},
		{union(distinct(scan(0)), distinct(scan(1))), []string{"null", "null", "0", "1", "1", "2"}},
		{distinct(project(scan(0), lit(4))), []string{"4"}},
	} {
		if got := rowsOf(t, c.p, db); !equal(got, rows(c.want...)) {
			t.Errorf("the rows of %v = %v, want %v", c.p, got, c.want)
		}
	}
}

func TestGroups(t *testing.T) {
	db := []impl.Table{table(t, 3, "null 1 2", "null 1 3", "null null 3", "1 1 2", "5 1 2"), {Width: 3}, tableOf(t, 1, slices.Repeat(rows("7"), impl.MaxRows))}
	for _, c := range []struct {
		p    impl.Plan
		want []string
	}{
		{group(scan(0), 0), []string{"null 3", "1 1", "5 1"}}, {group(scan(0), 1), []string{"null 1", "1 4"}},
		{group(scan(0), 0, 1), []string{"null null 1", "null 1 2", "1 1 1", "5 1 1"}},
		{group(scan(0), 1, 2), []string{"null 3 1", "1 2 3", "1 3 1"}}, {group(scan(0), 0, 2), []string{"null 2 1", "null 3 2", "1 2 1", "5 2 1"}},
		{group(scan(0), 0, 1, 2), []string{"null null 3 1", "null 1 2 1", "null 1 3 1", "1 1 2 1", "5 1 2 1"}},
		{group(scan(0)), []string{"5"}}, {group(scan(1)), nil}, {group(scan(1), 0), nil}, {group(scan(1), 0, 1, 2), nil},
		{group(filter(lit(0), scan(0))), nil}, {group(group(scan(0))), []string{"1"}}, {group(group(scan(0), 0), 1), []string{"1 2", "3 1"}},
		{group(scan(2)), []string{"400"}}, {group(scan(2), 0), []string{"7 400"}},
	} {
		if got := rowsOf(t, c.p, db); !equal(got, rows(c.want...)) {
			t.Errorf("the rows of %v = %v, want %v", c.p, got, c.want)
		}
	}
}

func TestPartsWithTooManyRows(t *testing.T) {
	db := []impl.Table{tableOf(t, 1, numbered(0, 200)), tableOf(t, 1, numbered(0, 201)), tableOf(t, 1, numbered(0, 20)), tableOf(t, 1, numbered(0, 21))}
	few, many := union(scan(0), scan(0)), union(scan(0), scan(1))
	upTo := func(n int) impl.Expr { return op(impl.LessThan, col(0), lit(n)) }
	for _, c := range []struct {
		name  string
		p     impl.Plan
		count int
	}{
		{"a union of MaxRows rows", few, 400},
		{"a union of one more", many, 0},
		{"the distinct rows of a union of MaxRows rows", distinct(few), 200},
		{"the distinct rows of a union of one more", distinct(many), 0},
		{"the filter of a union of one more", filter(upTo(1), many), 0},
		{"a group without columns of a union of one more", group(many), 0},
		{"the union of a union of one more and another table", union(many, scan(2)), 20},
		{"a join of MaxRows rows", join(lit(1), scan(2), scan(2)), 400},
		{"a join of more", join(lit(1), scan(2), scan(3)), 0},
		{"a group of a join of more", group(join(lit(1), scan(2), scan(3)), 0), 0},
		{"a join of many rows with few matches", join(equals(0, 1), scan(1), scan(1)), 201},
		{"a left join of MaxRows rows", leftJoin(lit(1), scan(2), scan(2)), 400},
		{"a left join of more", leftJoin(lit(1), scan(2), scan(3)), 0},
		{"a left join with MaxRows matches", leftJoin(upTo(20), filter(upTo(20), scan(3)), scan(2)), 400},
		{"a left join with one row without a match more", leftJoin(upTo(20), scan(3), scan(2)), 0},
		{"a left join with a union of one more", leftJoin(lit(1), scan(0), many), 200},
		{"a left join of a union of one more", leftJoin(lit(1), many, scan(0)), 0},
		{"a projection of a union of one more", project(many, lit(1)), 0},
	} {
		x, ok := impl.EvalPlan(c.p, db)
		if !ok || len(x.Rows) != c.count || x.Width != impl.PlanWidth(c.p, widthsOf(db)) {
			t.Errorf("%s: %d rows of the width %d, %v, want %d rows", c.name, len(x.Rows), x.Width, ok, c.count)
		}
	}
}

func TestP028AFilterItsNegationAndItsNullTestDivideATable(t *testing.T) {
	m := &maker{state: 28}
	for _, c := range somePlans(t, 28, 200) {
		e := m.expr(1, 3)
		parts := union(filter(e, c.p), union(filter(op(impl.NotExpr, e), c.p), filter(op(impl.NullTest, e), c.p)))
		sameResult(t, parts, c.p, c.db)
	}
}

func TestP029FiltersAreIdempotentAndCommute(t *testing.T) {
	m := &maker{state: 29}
	for _, c := range somePlans(t, 29, 200) {
		width := impl.PlanWidth(c.p, c.widths)
		e, f := m.expr(width, 3), m.expr(width, 3)
		sameResult(t, filter(e, filter(e, c.p)), filter(e, c.p), c.db)
		sameResult(t, filter(e, filter(f, c.p)), filter(f, filter(e, c.p)), c.db)
	}
}

// somePairs calls a check for pairs of plans whose rows together have at most MaxWidth values, and a condition on both.
func somePairs(t *testing.T, seed int, check func(p impl.Plan, q impl.Plan, e impl.Expr, c somePlan)) {
	t.Helper()
	m := &maker{state: uint64(seed)}
	for _, c := range somePlans(t, seed, 400) {
		q, other := m.plan(c.widths, 1)
		width := impl.PlanWidth(c.p, c.widths)
		if width+other > impl.MaxWidth {
			continue
		}
		e := m.expr(width+other, 3)
		if m.below(2) == 0 {
			e = equals(m.below(width), width+m.below(other))
		}
		if _, most := slowRows(t, leftJoin(lit(1), c.p, q), c.db); most <= impl.MaxRows {
			check(c.p, q, e, c)
		}
	}
}

func TestP030ALeftJoinKeepsAllRowsOfItsFirstKid(t *testing.T) {
	somePairs(t, 30, func(p impl.Plan, q impl.Plan, e impl.Expr, c somePlan) {
		kept := project(leftJoin(e, p, q), columns(impl.PlanWidth(p, c.widths))...)
		sameResult(t, distinct(kept), distinct(p), c.db)
	})
}

func TestP031ALeftJoinContainsTheJoin(t *testing.T) {
	somePairs(t, 31, func(p impl.Plan, q impl.Plan, e impl.Expr, c somePlan) {
		all, _ := impl.EvalPlan(leftJoin(e, p, q), c.db)
		inner, _ := impl.EvalPlan(join(e, p, q), c.db)
		for _, r := range inner.Rows {
			if impl.CountRow(all, r) < impl.CountRow(inner, r) {
				t.Fatalf("the left join of %v and %v has %v, the join has %v, for %v", p, q, all, inner, c.db)
			}
		}
	})
}

func TestP032GroupsCountAllRows(t *testing.T) {
	for _, c := range somePlans(t, 32, 200) {
		sum := 0
		list := rowsOf(t, group(c.p, 0), c.db)
		for i, r := range list {
			sum += r[1].N
			if countOf(picked(list[:i], []int{0}), r[:1]) > 0 {
				t.Fatalf("the group of %v by the first column has %v", c.p, list)
			}
		}
		if n := len(rowsOf(t, c.p, c.db)); sum != n {
			t.Fatalf("the group of %v by the first column counts %d rows of %d", c.p, sum, n)
		}
	}
}

func TestP033SizesAddUp(t *testing.T) {
	for _, c := range somePlans(t, 33, 200) {
		size := 1
		for _, kid := range c.p.Kids {
			size += impl.PlanSize(kid, c.widths)
		}
		if got := impl.PlanSize(c.p, c.widths); got != size || got < len(impl.TablesOf(c.p, c.widths)) {
			t.Fatalf("PlanSize(%v) = %d, want %d", c.p, got, size)
		}
	}
	widths := []int{1, 1, 1, 1}
	for _, c := range []struct {
		p      impl.Plan
		size   int
		tables []int
	}{
		{scan(2), 1, []int{2}}, {distinct(filter(lit(1), scan(0))), 3, []int{0}}, {union(scan(3), scan(1)), 3, []int{1, 3}},
		{union(scan(1), union(scan(1), scan(1))), 5, []int{1}}, {join(lit(1), union(scan(3), scan(2)), union(scan(0), scan(3))), 7, []int{0, 2, 3}},
		{union(union(scan(3), scan(2)), union(scan(1), scan(0))), 7, []int{0, 1, 2, 3}},
	} {
		if size, tables := impl.PlanSize(c.p, widths), impl.TablesOf(c.p, widths); size != c.size || !equal(tables, c.tables) {
			t.Errorf("PlanSize and TablesOf(%v) = %d, %v, want %d, %v", c.p, size, tables, c.size, c.tables)
		}
	}
}

func TestP034OnlyScannedTablesMatter(t *testing.T) {
	emptied := 0
	for _, c := range somePlans(t, 34, 300) {
		tables := impl.TablesOf(c.p, c.widths)
		want := rowsOf(t, c.p, c.db)
		for i, x := range c.db {
			db := slices.Clone(c.db)
			db[i] = impl.Table{Width: x.Width}
			if slices.Contains(tables, i) {
				continue
			}
			emptied++
			if got := rowsOf(t, c.p, db); !equal(got, want) {
				t.Fatalf("%v scans %v, but its result is %v without the table %d, and %v with it", c.p, tables, got, i, want)
			}
		}
	}
	if emptied < 50 {
		t.Errorf("only %d tables are not scanned", emptied)
	}
}

func TestP141ConstantFiltersKeepAllRowsOrNone(t *testing.T) {
	for _, c := range somePlans(t, 141, 100) {
		sameResult(t, filter(lit(1), c.p), c.p, c.db)
		for _, e := range []impl.Expr{lit(0), val(null)} {
			if list := rowsOf(t, filter(e, c.p), c.db); len(list) > 0 {
				t.Fatalf("the filter of %v with %v has the rows %v", c.p, e, list)
			}
		}
	}
}

func TestP142AProjectionToAllColumnsChangesNothing(t *testing.T) {
	for _, c := range somePlans(t, 142, 200) {
		sameResult(t, project(c.p, columns(impl.PlanWidth(c.p, c.widths))...), c.p, c.db)
	}
}

func TestP143DistinctAbsorbsDuplicates(t *testing.T) {
	for _, c := range somePlans(t, 143, 200) {
		if len(rowsOf(t, c.p, c.db)) <= impl.MaxRows/2 {
			sameResult(t, distinct(union(c.p, c.p)), distinct(c.p), c.db)
		}
	}
}

func TestP144AJoinIsAFilteredProduct(t *testing.T) {
	somePairs(t, 144, func(p impl.Plan, q impl.Plan, e impl.Expr, c somePlan) {
		sameResult(t, join(e, p, q), filter(e, join(lit(1), p, q)), c.db)
	})
}

func TestP147UnionsDoNotDependOnTheOrder(t *testing.T) {
	for _, c := range somePlans(t, 147, 200) {
		q := project(scan(0), slices.Repeat([]impl.Expr{col(0)}, impl.PlanWidth(c.p, c.widths))...)
		both := len(rowsOf(t, c.p, c.db)) + len(rowsOf(t, q, c.db))
		if both > impl.MaxRows {
			continue
		}
		sameResult(t, union(c.p, q), union(q, c.p), c.db)
		if n := len(rowsOf(t, union(c.p, q), c.db)); n != both {
			t.Fatalf("the union of %v and %v has %d rows, want %d", c.p, q, n, both)
		}
	}
}

func TestP148GroupsAreDistinctProjections(t *testing.T) {
	for _, c := range somePlans(t, 148, 200) {
		sameResult(t, project(group(c.p, 0), col(0)), distinct(project(c.p, col(0))), c.db)
	}
}
