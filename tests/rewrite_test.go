package tests

import (
	"math"
	"slices"
	"testing"

	"loop.example/queryoptimizer/impl"
)

// rewriting is a plan for the widths 2 and 1, and what a rule makes of it; the zero Plan if it does not apply.
type rewriting struct {
	rule     int
	from, to impl.Plan
}

// ruleTables returns tables of the widths 2 and 1, with null and equal rows and without rows.
func ruleTables(t *testing.T) [][]impl.Table {
	t.Helper()
	wide := table(t, 2, "null null", "null 1", "null 1", "0 null", "1 0", "1 2", "1 2", "2 1", "5 5")
	narrow := table(t, 1, "null", "null", "0", "1", "1", "2", "5")
	return [][]impl.Table{{wide, narrow}, {wide, {Width: 1}}, {{Width: 2}, narrow}, {{Width: 2}, {Width: 1}}}
}

// checkRewritings checks rewritings of whole plans and of parts of a plan, and that they keep the result.
func checkRewritings(t *testing.T, list []rewriting) {
	t.Helper()
	widths := []int{2, 1}
	for _, c := range list {
		width := impl.PlanWidth(c.from, widths)
		other := project(scan(0), slices.Repeat([]impl.Expr{lit(1)}, width)...)
		if width == 0 {
			t.Fatalf("%v is invalid", c.from)
		}
		around := distinct(union(other, c.from))
		if equal(c.to, impl.Plan{}) {
			refuses(t, c.from, widths, step(c.rule))
			refuses(t, around, widths, step(c.rule, 0, 1))
			continue
		}
		if got := applied(t, c.from, widths, step(c.rule)); !equal(got, c.to) {
			t.Errorf("the rule %d makes %v of %v, want %v", c.rule, got, c.from, c.to)
		}
		if got, want := applied(t, around, widths, step(c.rule, 0, 1)), distinct(union(other, c.to)); !equal(got, want) {
			t.Errorf("the rule %d makes %v of %v, want %v", c.rule, got, around, want)
		}
		for _, db := range ruleTables(t) {
			sameResult(t, c.from, c.to, db)
		}
	}
}

func TestMergeFilters(t *testing.T) {
	x, none := scan(0), impl.Plan{}
	e, f, g := equals(0, 1), op(impl.LessThan, col(1), lit(2)), isNull(0)
	checkRewritings(t, []rewriting{
		{impl.MergeFilters, filter(e, filter(f, x)), filter(and(f, e), x)},
		{impl.MergeFilters, filter(e, filter(f, filter(g, x))), filter(and(f, e), filter(g, x))},
		{impl.MergeFilters, filter(lit(1), filter(val(null), x)), filter(and(val(null), lit(1)), x)},
		{impl.MergeFilters, filter(and(e, f), filter(and(f, g), x)), filter(and(and(f, g), and(e, f)), x)},
		{impl.MergeFilters, filter(nested(7, col(0)), filter(nested(7, col(1)), x)), filter(and(nested(7, col(1)), nested(7, col(0))), x)},
		{impl.MergeFilters, filter(nested(8, col(0)), filter(f, x)), none},
		{impl.MergeFilters, filter(e, filter(nested(8, col(0)), x)), none},
		{impl.MergeFilters, filter(e, x), none},
		{impl.MergeFilters, x, none},
		{impl.MergeFilters, filter(e, distinct(filter(f, x))), none},
		{impl.MergeFilters, distinct(filter(f, x)), none},
		{impl.MergeFilters, project(filter(f, x), e), none},
		{impl.MergeFilters, filter(col(0), join(e, scan(1), scan(1))), none},
	})
}

func TestSplitFilter(t *testing.T) {
	x, none := scan(0), impl.Plan{}
	e, f, g := equals(0, 1), op(impl.LessThan, col(1), lit(2)), isNull(0)
	checkRewritings(t, []rewriting{
		{impl.SplitFilter, filter(and(f, e), x), filter(e, filter(f, x))},
		{impl.SplitFilter, filter(and(and(f, e), g), x), filter(g, filter(and(f, e), x))},
		{impl.SplitFilter, filter(and(f, and(e, g)), x), filter(and(e, g), filter(f, x))},
		{impl.SplitFilter, filter(and(f, e), filter(g, x)), filter(e, filter(f, filter(g, x)))},
		{impl.SplitFilter, filter(and(val(null), lit(1)), x), filter(lit(1), filter(val(null), x))},
		{impl.SplitFilter, filter(op(impl.OrExpr, f, e), x), none},
		{impl.SplitFilter, filter(not(and(f, e)), x), none},
		{impl.SplitFilter, filter(e, x), none},
		{impl.SplitFilter, join(and(col(0), col(1)), scan(1), scan(1)), none},
		{impl.SplitFilter, project(x, and(f, e)), none},
		{impl.SplitFilter, x, none},
	})
}

func TestPushLeft(t *testing.T) {
	x, y, none := scan(0), scan(1), impl.Plan{}
	f := equals(0, 2)
	less := op(impl.LessThan, col(1), col(0))
	var list []rewriting
	for _, link := range []func(impl.Expr, impl.Plan, impl.Plan) impl.Plan{join, leftJoin} {
		for _, e := range []impl.Expr{col(0), col(1), less, isNull(1), lit(1), lit(0), val(null), op(impl.Plus, lit(1), lit(2))} {
			list = append(list, rewriting{impl.PushLeft, filter(e, link(f, x, y)), link(f, filter(e, x), y)})
		}
		for _, e := range []impl.Expr{col(2), f, not(isNull(2)), and(col(0), col(2)), and(col(2), col(0)), op(impl.OrExpr, lit(1), col(2))} {
			list = append(list, rewriting{impl.PushLeft, filter(e, link(f, x, y)), none})
		}
		list = append(list,
			rewriting{impl.PushLeft, filter(isNull(0), link(f, y, x)), link(f, filter(isNull(0), y), x)},
			rewriting{impl.PushLeft, filter(isNull(1), link(f, y, x)), none},
			rewriting{impl.PushLeft, distinct(link(f, x, y)), none},
			rewriting{impl.PushLeft, link(f, x, y), none},
			rewriting{impl.PushLeft, filter(col(0), distinct(link(f, x, y))), none},
		)
	}
	checkRewritings(t, append(list,
		rewriting{impl.PushLeft, filter(col(0), union(x, x)), none},
		rewriting{impl.PushLeft, filter(col(0), x), none},
		rewriting{impl.PushLeft, filter(lit(1), filter(lit(1), x)), none},
	))
}

func TestPushRight(t *testing.T) {
	x, y, none := scan(0), scan(1), impl.Plan{}
	f := equals(0, 2)
	push := func(e impl.Expr, reduced impl.Expr) rewriting {
		return rewriting{impl.PushRight, filter(e, join(f, x, y)), join(f, x, filter(reduced, y))}
	}
	list := []rewriting{
		push(col(2), col(0)), push(isNull(2), isNull(0)), push(not(op(impl.LessThan, lit(2), col(2))), not(op(impl.LessThan, lit(2), col(0)))),
		push(lit(1), lit(1)), push(lit(0), lit(0)), push(val(null), val(null)), push(op(impl.Minus, lit(1), lit(1)), op(impl.Minus, lit(1), lit(1))),
		{impl.PushRight, filter(equals(1, 2), join(f, y, x)), join(f, y, filter(equals(0, 1), x))},
		{impl.PushRight, filter(op(impl.LessThan, col(2), col(1)), join(f, y, x)), join(f, y, filter(op(impl.LessThan, col(1), col(0)), x))},
		{impl.PushRight, filter(equals(3, 2), join(f, x, join(lit(1), y, y))), join(f, x, filter(equals(1, 0), join(lit(1), y, y)))},
		{impl.PushRight, filter(equals(0, 1), join(f, y, x)), none},
	}
	for _, e := range []impl.Expr{col(0), col(1), f, and(col(2), col(1)), and(isNull(0), isNull(2))} {
		list = append(list, rewriting{impl.PushRight, filter(e, join(f, x, y)), none})
	}
	for _, e := range []impl.Expr{col(2), isNull(2), op(impl.EqualTo, col(2), lit(5)), lit(1), lit(0), col(0), f} {
		list = append(list, rewriting{impl.PushRight, filter(e, leftJoin(f, x, y)), none})
	}
	checkRewritings(t, append(list,
		rewriting{impl.PushRight, filter(lit(1), union(x, x)), none},
		rewriting{impl.PushRight, filter(lit(1), x), none},
		rewriting{impl.PushRight, join(f, x, y), none},
	))
}

func TestFilterIntoJoin(t *testing.T) {
	x, y, none := scan(0), scan(1), impl.Plan{}
	f := equals(0, 2)
	var list []rewriting
	for _, e := range []impl.Expr{col(0), col(2), op(impl.LessThan, col(1), col(2)), isNull(1), lit(1), val(null), and(col(0), col(1)), nested(7, col(0))} {
		list = append(list,
			rewriting{impl.FilterIntoJoin, filter(e, join(f, x, y)), join(and(f, e), x, y)},
			rewriting{impl.FilterIntoJoin, filter(e, leftJoin(f, x, y)), none},
		)
	}
	checkRewritings(t, append(list,
		rewriting{impl.FilterIntoJoin, filter(col(0), join(nested(7, f), x, y)), none},
		rewriting{impl.FilterIntoJoin, filter(col(0), join(nested(6, f), x, y)), join(and(nested(6, f), col(0)), x, y)},
		rewriting{impl.FilterIntoJoin, filter(nested(8, col(0)), join(f, x, y)), none},
		rewriting{impl.FilterIntoJoin, filter(col(0), union(x, x)), none},
		rewriting{impl.FilterIntoJoin, filter(col(0), x), none},
		rewriting{impl.FilterIntoJoin, join(f, x, y), none},
		rewriting{impl.FilterIntoJoin, project(join(f, x, y), col(0)), none},
	))
}

func TestCommuteJoin(t *testing.T) {
	x, y, none := scan(0), scan(1), impl.Plan{}
	cols := func(list ...int) []impl.Expr {
		var result []impl.Expr
		for _, n := range list {
			result = append(result, col(n))
		}
		return result
	}
	less := func(a int, b int) impl.Expr { return op(impl.LessThan, col(a), col(b)) }
	pair := join(equals(0, 1), y, y)
	checkRewritings(t, []rewriting{
		{impl.CommuteJoin, join(equals(0, 2), x, y), project(join(equals(1, 0), y, x), cols(1, 2, 0)...)},
		{impl.CommuteJoin, join(and(less(0, 1), isNull(2)), x, y), project(join(and(less(1, 2), isNull(0)), y, x), cols(1, 2, 0)...)},
		{impl.CommuteJoin, join(and(equals(0, 1), less(2, 0)), y, x), project(join(and(equals(2, 0), less(1, 2)), x, y), cols(2, 0, 1)...)},
		{impl.CommuteJoin, join(less(0, 1), y, distinct(y)), project(join(less(1, 0), distinct(y), y), cols(1, 0)...)},
		{impl.CommuteJoin, join(and(less(0, 3), equals(1, 4)), x, join(lit(1), y, x)), project(join(and(less(3, 1), equals(4, 2)), join(lit(1), y, x), x), cols(3, 4, 0, 1, 2)...)},
		{impl.CommuteJoin, join(less(3, 5), join(lit(1), x, pair), distinct(pair)), project(join(less(5, 1), distinct(pair), join(lit(1), x, pair)), cols(2, 3, 4, 5, 0, 1)...)},
		{impl.CommuteJoin, join(lit(1), x, y), project(join(lit(1), y, x), cols(1, 2, 0)...)},
		{impl.CommuteJoin, join(val(null), x, y), project(join(val(null), y, x), cols(1, 2, 0)...)},
		{impl.CommuteJoin, leftJoin(equals(0, 2), x, y), none},
		{impl.CommuteJoin, union(x, x), none},
		{impl.CommuteJoin, filter(col(0), join(equals(0, 2), x, y)), none},
		{impl.CommuteJoin, distinct(pair), none},
		{impl.CommuteJoin, x, none},
	})
}

func TestOuterToInner(t *testing.T) {
	x, y, none := scan(0), scan(1), impl.Plan{}
	f := equals(0, 2)
	either := func(e impl.Expr, f impl.Expr) impl.Expr { return op(impl.OrExpr, e, f) }
	var list []rewriting
	for _, e := range []impl.Expr{
		col(2), not(col(2)), f, op(impl.EqualTo, col(2), lit(5)), op(impl.LessThan, op(impl.Plus, col(2), lit(1)), col(1)), not(isNull(2)),
		and(col(0), col(2)), and(isNull(0), not(isNull(2))), and(isNull(2), f), not(either(col(0), isNull(2))), not(either(col(0), col(2))),
		lit(0), val(null), not(val(null)), op(impl.EqualTo, col(0), val(null)), op(impl.Plus, lit(1), val(null)), and(col(0), val(null)), and(val(null), lit(1)), either(val(null), lit(0)),
		either(col(2), val(null)), not(op(impl.NullTest, val(null))),
	} {
		list = append(list,
			rewriting{impl.OuterToInner, filter(e, leftJoin(f, x, y)), filter(e, join(f, x, y))},
			rewriting{impl.OuterToInner, filter(e, join(f, x, y)), none},
			rewriting{impl.OuterToInner, filter(e, distinct(leftJoin(f, x, y))), none},
		)
	}
	for _, e := range []impl.Expr{
		col(0), isNull(0), isNull(2), op(impl.NullTest, f), either(col(0), col(2)), and(col(0), isNull(2)), not(and(col(0), col(2))), not(not(isNull(2))),
		lit(1), op(impl.Times, lit(2), lit(2)), either(col(0), val(null)), op(impl.NullTest, val(null)), not(and(col(0), val(null))),
	} {
		list = append(list, rewriting{impl.OuterToInner, filter(e, leftJoin(f, x, y)), none})
	}
	for _, e := range []impl.Expr{col(1), col(2), either(col(1), col(2)), and(isNull(1), col(2)), equals(1, 2), equals(0, 2)} {
		list = append(list, rewriting{impl.OuterToInner, filter(e, leftJoin(f, y, x)), filter(e, join(f, y, x))})
	}
	for _, e := range []impl.Expr{col(0), not(col(0)), either(isNull(1), col(2)), isNull(1), isNull(2), op(impl.LessThan, col(0), lit(3))} {
		list = append(list, rewriting{impl.OuterToInner, filter(e, leftJoin(f, y, x)), none})
	}
	checkRewritings(t, append(list,
		rewriting{impl.OuterToInner, filter(lit(0), x), none},
		rewriting{impl.OuterToInner, leftJoin(f, x, y), none},
		rewriting{impl.OuterToInner, distinct(leftJoin(lit(0), x, y)), none},
	))
}

func TestFilterUnion(t *testing.T) {
	x, y, none := scan(0), scan(1), impl.Plan{}
	z := project(x, col(1), col(0))
	checkRewritings(t, []rewriting{
		{impl.FilterUnion, filter(equals(0, 1), union(x, z)), union(filter(equals(0, 1), x), filter(equals(0, 1), z))},
		{impl.FilterUnion, filter(isNull(0), union(y, y)), union(filter(isNull(0), y), filter(isNull(0), y))},
		{impl.FilterUnion, filter(lit(1), union(z, x)), union(filter(lit(1), z), filter(lit(1), x))},
		{impl.FilterUnion, filter(nested(8, col(0)), union(x, x)), union(filter(nested(8, col(0)), x), filter(nested(8, col(0)), x))},
		{impl.FilterUnion, filter(col(0), join(col(0), x, y)), none},
		{impl.FilterUnion, filter(col(0), distinct(union(x, z))), none},
		{impl.FilterUnion, distinct(union(x, z)), none},
		{impl.FilterUnion, union(filter(col(0), x), z), none},
		{impl.FilterUnion, project(union(x, z), col(0)), none},
		{impl.FilterUnion, filter(col(0), x), none},
	})
}

func TestDropDistinct(t *testing.T) {
	x, none := scan(0), impl.Plan{}
	checkRewritings(t, []rewriting{
		{impl.DropDistinct, distinct(distinct(x)), distinct(x)},
		{impl.DropDistinct, distinct(distinct(distinct(x))), distinct(distinct(x))},
		{impl.DropDistinct, distinct(group(x, 0)), group(x, 0)},
		{impl.DropDistinct, distinct(group(x)), group(x)},
		{impl.DropDistinct, distinct(group(x, 0, 1)), group(x, 0, 1)},
		{impl.DropDistinct, distinct(x), none},
		{impl.DropDistinct, distinct(filter(lit(1), distinct(x))), none},
		{impl.DropDistinct, distinct(project(group(x, 0), col(1))), none},
		{impl.DropDistinct, distinct(union(distinct(x), distinct(x))), none},
		{impl.DropDistinct, distinct(join(lit(1), distinct(x), group(x))), none},
		{impl.DropDistinct, group(distinct(x)), none},
		{impl.DropDistinct, group(group(x, 0), 0), none},
		{impl.DropDistinct, filter(lit(1), distinct(x)), none},
	})
}

func TestFilterProject(t *testing.T) {
	x, y, none := scan(0), scan(1), impl.Plan{}
	sum := op(impl.Plus, col(0), col(1))
	less := op(impl.LessThan, col(1), col(0))
	push := func(e impl.Expr, substituted impl.Expr, p impl.Plan, list ...impl.Expr) rewriting {
		return rewriting{impl.FilterProject, filter(e, project(p, list...)), project(filter(substituted, p), list...)}
	}
	checkRewritings(t, []rewriting{
		push(less, op(impl.LessThan, lit(2), sum), x, sum, lit(2)),
		push(less, op(impl.LessThan, col(0), col(1)), x, col(1), col(0)),
		push(equals(0, 0), op(impl.EqualTo, sum, sum), x, sum),
		push(isNull(2), op(impl.NullTest, val(null)), y, col(0), lit(1), val(null)),
		push(op(impl.Times, col(5), lit(3)), op(impl.Times, isNull(0), lit(3)), y, col(0), col(0), col(0), col(0), col(0), isNull(0)),
		push(lit(1), lit(1), x, sum), push(val(null), val(null), x, sum), push(lit(0), lit(0), x, lit(1)),
		push(nested(4, col(0)), nested(8, sum.Kids[1]), x, nested(4, col(1))),
		push(nested(5, col(1)), nested(5, col(0)), x, nested(4, col(1)), col(0)),
		push(nested(8, col(0)), nested(8, col(1)), x, col(1), nested(8, col(0))),
		{impl.FilterProject, filter(nested(5, col(0)), project(x, nested(4, col(1)))), none},
		{impl.FilterProject, filter(nested(8, col(0)), project(x, not(col(1)))), none},
		{impl.FilterProject, filter(not(col(1)), project(x, col(1), nested(8, col(0)))), none},
		{impl.FilterProject, filter(col(0), filter(col(0), project(x, sum))), none},
		{impl.FilterProject, project(project(x, sum), col(0)), none},
		{impl.FilterProject, filter(col(0), x), none},
		{impl.FilterProject, project(x, sum), none},
		{impl.FilterProject, distinct(project(x, sum)), none},
	})
}

func TestMergeProjects(t *testing.T) {
	x, y, none := scan(0), scan(1), impl.Plan{}
	sum := op(impl.Plus, col(0), col(1))
	checkRewritings(t, []rewriting{
		{impl.MergeProjects, project(project(x, sum, lit(2)), op(impl.LessThan, col(1), col(0)), col(0)), project(x, op(impl.LessThan, lit(2), sum), sum)},
		{impl.MergeProjects, project(project(x, col(1), col(0)), col(1), col(0)), project(x, col(0), col(1))},
		{impl.MergeProjects, project(project(x, sum), equals(0, 0), isNull(0), lit(4)), project(x, op(impl.EqualTo, sum, sum), op(impl.NullTest, sum), lit(4))},
		{impl.MergeProjects, project(project(y, lit(7)), val(null), lit(1)), project(y, val(null), lit(1))},
		{impl.MergeProjects, project(project(y, columns(1)[0], lit(1), lit(2), lit(3), lit(4), isNull(0)), not(col(5))), project(y, not(isNull(0)))},
		{impl.MergeProjects, project(project(project(x, sum, col(0)), col(1)), not(col(0))), project(project(x, sum, col(0)), not(col(1)))},
		{impl.MergeProjects, project(project(x, nested(4, col(1)), col(0)), nested(4, col(0)), nested(8, col(1))), project(x, nested(8, col(1)), nested(8, col(0)))},
		{impl.MergeProjects, project(project(x, nested(4, col(1)), col(0)), col(0), nested(5, col(0))), none},
		{impl.MergeProjects, project(project(x, nested(8, col(1))), not(col(0)), col(0)), none},
		{impl.MergeProjects, project(filter(col(0), project(x, sum)), col(0)), none},
		{impl.MergeProjects, filter(col(0), project(x, sum)), none},
		{impl.MergeProjects, distinct(project(x, sum)), none},
		{impl.MergeProjects, project(x, sum), none},
		{impl.MergeProjects, x, none},
	})
}

func TestStepsThatWouldBeTooDeep(t *testing.T) {
	widths := []int{2, 1}
	e, f := equals(0, 1), col(1)
	for _, c := range []struct {
		rule   int
		of     func(x impl.Plan) impl.Plan
		levels int
	}{
		{impl.SplitFilter, func(x impl.Plan) impl.Plan { return filter(and(f, e), x) }, 2},
		{impl.CommuteJoin, func(x impl.Plan) impl.Plan { return join(f, x, scan(1)) }, 2},
		{impl.CommuteJoin, func(x impl.Plan) impl.Plan { return join(f, scan(1), x) }, 2},
		{impl.MergeFilters, func(x impl.Plan) impl.Plan { return filter(e, filter(f, x)) }, 2},
		{impl.PushLeft, func(x impl.Plan) impl.Plan { return filter(col(0), leftJoin(f, x, scan(1))) }, 2},
		{impl.PushRight, func(x impl.Plan) impl.Plan { return filter(col(1), join(f, scan(1), x)) }, 2},
		{impl.FilterIntoJoin, func(x impl.Plan) impl.Plan { return filter(e, join(f, scan(1), x)) }, 2},
		{impl.OuterToInner, func(x impl.Plan) impl.Plan { return filter(col(2), leftJoin(f, x, scan(1))) }, 2},
		{impl.FilterUnion, func(x impl.Plan) impl.Plan { return filter(e, union(x, scan(0))) }, 2},
		{impl.DropDistinct, func(x impl.Plan) impl.Plan { return distinct(distinct(x)) }, 2},
		{impl.FilterProject, func(x impl.Plan) impl.Plan { return filter(f, project(x, f, e)) }, 2},
		{impl.MergeProjects, func(x impl.Plan) impl.Plan { return project(project(x, f, e), f) }, 2},
	} {
		// The rest is divided in all ways into levels below the rewritten part and levels above it.
		for below := range impl.MaxDepth - c.levels + 1 {
			above := impl.MaxDepth - c.levels - below
			path := make([]int, above)
			if p := stacked(above, c.of(stacked(below, scan(0)))); !slices.ContainsFunc(impl.StepsFor(p, widths), func(s impl.Step) bool { return equal(s, step(c.rule, path...)) }) {
				t.Errorf("StepsFor(%v) lacks the rule %d", p, c.rule)
			} else {
				applied(t, p, widths, step(c.rule, path...))
			}
			if c.rule != impl.SplitFilter && c.rule != impl.CommuteJoin {
				continue
			}
			deep := stacked(above, c.of(stacked(below+1, scan(0))))
			if impl.PlanWidth(deep, widths) == 0 {
				t.Fatalf("%v is invalid", deep)
			}
			refuses(t, deep, widths, step(c.rule, path...))
			if list := impl.StepsFor(deep, widths); slices.ContainsFunc(list, func(s impl.Step) bool { return s.Rule == c.rule }) {
				t.Errorf("StepsFor(%v) = %v", deep, list)
			}
		}
	}
}

func TestPlanAt(t *testing.T) {
	p := union(filter(col(0), scan(0)), distinct(join(lit(1), scan(1), scan(2))))
	for _, c := range []struct {
		path []int
		want impl.Plan
	}{
		{nil, p}, {[]int{}, p}, {[]int{0}, p.Kids[0]}, {[]int{1}, p.Kids[1]}, {[]int{0, 0}, scan(0)}, {[]int{1, 0}, join(lit(1), scan(1), scan(2))},
		{[]int{1, 0, 0}, scan(1)}, {[]int{1, 0, 1}, scan(2)},
	} {
		if got, ok := impl.PlanAt(p, c.path); !ok || !equal(got, c.want) {
			t.Errorf("PlanAt(%v) = %v, %v, want %v", c.path, got, ok, c.want)
		}
	}
	for _, path := range [][]int{{2}, {-1}, {0, 1}, {0, -1}, {1, 1}, {0, 0, 0}, {1, 0, 2}, {1, 0, 0, 0}, {2, 0}, {math.MaxInt}, {math.MinInt}} {
		if got, ok := impl.PlanAt(p, path); ok || !equal(got, impl.Plan{}) {
			t.Errorf("PlanAt(%v) = %v, %v", path, got, ok)
		}
	}
}

func TestPathsOfMaxDepthElements(t *testing.T) {
	zeros := make([]int, impl.MaxDepth)
	for _, levels := range []int{impl.MaxDepth, impl.MaxDepth + 1, impl.MaxDepth + 5} {
		if got, ok := impl.PlanAt(stacked(levels, scan(3)), zeros); !ok || !equal(got, stacked(levels-impl.MaxDepth, scan(3))) {
			t.Errorf("PlanAt of a path of MaxDepth elements = %v, %v", got, ok)
		}
		if got, ok := impl.PlanAt(stacked(levels, scan(3)), append(zeros, 0)); ok || !equal(got, impl.Plan{}) {
			t.Errorf("PlanAt of a path of MaxDepth elements and one more = %v, %v", got, ok)
		}
	}
	if got, ok := impl.PlanAt(stacked(impl.MaxDepth-1, scan(3)), zeros); ok || !equal(got, impl.Plan{}) {
		t.Errorf("PlanAt of a path that is too long by one element = %v, %v", got, ok)
	}
	p := stacked(impl.MaxDepth, scan(0))
	if got := applied(t, p, []int{1}, step(impl.DropDistinct, zeros[:impl.MaxDepth-2]...)); !equal(got, stacked(impl.MaxDepth-1, scan(0))) {
		t.Errorf("DropDistinct of the last part with a kid = %v", got)
	}
	for n := impl.MaxDepth - 1; n < impl.MaxDepth+3; n++ {
		for rule := impl.MergeFilters; rule <= impl.MergeProjects; rule++ {
			refuses(t, p, []int{1}, step(rule, make([]int, n)...))
		}
	}
}

func TestPlanAtOfInvalidPlans(t *testing.T) {
	odd := impl.Plan{Kind: -7, Table: 12, Exprs: []impl.Expr{nested(20, impl.Expr{Kind: 99, Col: -1, Val: num(-20000)})}, Cols: []int{9, -9}, Kids: []impl.Plan{scan(-5), {}, scan(77)}}
	list := []impl.Plan{{}, odd, union(scan(0), odd), scan(-1), filter(impl.Expr{}, scan(9)), stacked(impl.MaxDepth+1, odd), join(col(7), scan(0), scan(1))}
	for _, p := range basicPlans() {
		list = append(list, withWrongFields(p)...)
	}
	for i, p := range list {
		if got, ok := impl.PlanAt(p, nil); !ok || !equal(got, p) {
			t.Errorf("PlanAt of the invalid plan %d = %v, %v", i, got, ok)
		}
		for k, kid := range p.Kids {
			if got, ok := impl.PlanAt(p, []int{k}); !ok || !equal(got, kid) {
				t.Errorf("PlanAt of the kid %d of the invalid plan %d = %v, %v", k, i, got, ok)
			}
		}
		if got, ok := impl.PlanAt(p, []int{len(p.Kids)}); ok || !equal(got, impl.Plan{}) {
			t.Errorf("PlanAt of a missing kid of the invalid plan %d = %v, %v", i, got, ok)
		}
	}
}

func TestPlanAtOfAPlanWithManyLevels(t *testing.T) {
	const levels = 200000
	got, ok := impl.PlanAt(filter(nested(levels, col(0)), stacked(levels, scan(0))), nil)
	count := 0
	for e := got.Exprs[0]; len(e.Kids) == 1; e = e.Kids[0] {
		count++
	}
	for p := got; len(p.Kids) == 1; p = p.Kids[0] {
		count++
	}
	if !ok || count != 2*levels+1 {
		t.Errorf("PlanAt has %d levels, %v", count, ok)
	}
	path := slices.Repeat([]int{0}, impl.MaxDepth)
	if part, ok := impl.PlanAt(thicket(12), path); !ok || !equal(part, thicket(4)) {
		t.Errorf("PlanAt of a plan with shared parts = %v, %v", part, ok)
	}
	if part, ok := impl.PlanAt(thicket(100), append(path, 0)); ok || !equal(part, impl.Plan{}) {
		t.Error("PlanAt of a plan with shared parts finds a part below MaxDepth levels")
	}
}

func TestP041PathsLeadToParts(t *testing.T) {
	for _, c := range rewritablePlans(t, 41, 100) {
		for _, path := range pathsOf(c.p) {
			part, ok := impl.PlanAt(c.p, path)
			if !ok || impl.PlanWidth(part, c.widths) == 0 {
				t.Fatalf("PlanAt(%v, %v) = %v, %v", c.p, path, part, ok)
			}
			for i, kid := range part.Kids {
				if got, ok := impl.PlanAt(part, []int{i}); !ok || !equal(got, kid) {
					t.Fatalf("PlanAt(%v, %d) = %v, %v", part, i, got, ok)
				}
			}
			for _, more := range pathsOf(part) {
				want, _ := impl.PlanAt(part, more)
				if got, ok := impl.PlanAt(c.p, slices.Concat(path, more)); !ok || !equal(got, want) {
					t.Fatalf("PlanAt(%v, %v and %v) = %v, %v, want %v", c.p, path, more, got, ok, want)
				}
			}
		}
	}
}

func TestP042EveryRewritingKeepsTheResult(t *testing.T) {
	var checked [impl.MergeProjects + 1]int
	for _, c := range rewritablePlans(t, 42, 1500) {
		for _, s := range impl.StepsFor(c.p, c.widths) {
			if q := applied(t, c.p, c.widths, s); isSmall(t, q, c.db) {
				sameResult(t, c.p, q, c.db)
				checked[s.Rule]++
			}
		}
	}
	for rule := impl.MergeFilters; rule <= impl.MergeProjects; rule++ {
		if checked[rule] < 30 {
			t.Errorf("only %d plans are rewritten by the rule %d", checked[rule], rule)
		}
	}
}

func TestP043EveryRewritingKeepsTheWidth(t *testing.T) {
	for _, c := range rewritablePlans(t, 43, 400) {
		for _, s := range impl.StepsFor(c.p, c.widths) {
			sameTables(t, c.p, applied(t, c.p, c.widths, s), c.widths)
		}
	}
}

// sameTables fails unless two plans have the same width and scan the same tables.
func sameTables(t *testing.T, p impl.Plan, q impl.Plan, widths []int) {
	t.Helper()
	if impl.PlanWidth(p, widths) != impl.PlanWidth(q, widths) || !equal(impl.TablesOf(p, widths), impl.TablesOf(q, widths)) {
		t.Fatalf("%v and %v have different widths or scan different tables", p, q)
	}
}

func TestP044AllPossibleStepsAreFound(t *testing.T) {
	for _, c := range rewritablePlans(t, 44, 300) {
		var want []impl.Step
		for _, path := range append(pathsOf(c.p), []int{2}, []int{-1}, make([]int, impl.MaxDepth), make([]int, impl.MaxDepth+1)) {
			for rule := -1; rule <= impl.MergeProjects+1; rule++ {
				if q, ok := impl.ApplyStep(c.p, c.widths, step(rule, path...)); ok {
					want = append(want, step(rule, path...))
				} else if !equal(q, impl.Plan{}) {
					t.Fatalf("ApplyStep(%v, %d at %v) = %v, %v", c.p, rule, path, q, ok)
				}
			}
		}
		if got := impl.StepsFor(c.p, c.widths); !equal(got, want) {
			t.Fatalf("StepsFor(%v) = %v, want %v", c.p, got, want)
		}
	}
}

func TestP044AStepAppliesWhereItsPartIsRewritten(t *testing.T) {
	for _, c := range rewritablePlans(t, 440, 300) {
		for _, s := range impl.StepsFor(c.p, c.widths) {
			q := applied(t, c.p, c.widths, s)
			part, _ := impl.PlanAt(c.p, s.Path)
			got, ok := impl.PlanAt(q, s.Path)
			if want := applied(t, part, c.widths, step(s.Rule)); !ok || !equal(got, want) {
				t.Fatalf("%v makes %v of %v, want %v", s, got, part, want)
			}
			for _, path := range pathsOf(c.p) {
				// Two paths lead to separate parts if they differ in an element that both have.
				if n := min(len(path), len(s.Path)); equal(path[:n], s.Path[:n]) {
					continue
				}
				before, _ := impl.PlanAt(c.p, path)
				if after, ok := impl.PlanAt(q, path); !ok || !equal(before, after) {
					t.Fatalf("%v of %v changes the part at %v to %v", s, c.p, path, after)
				}
			}
		}
	}
}

func TestP045StepsAreListedFromTheOutsideToTheInside(t *testing.T) {
	for _, c := range rewritablePlans(t, 45, 400) {
		list := impl.StepsFor(c.p, c.widths)
		for i := 1; i < len(list); i++ {
			// A path is less than another one if it is a beginning of it.
			order := slices.Compare(list[i-1].Path, list[i].Path)
			if order > 0 || order == 0 && list[i-1].Rule >= list[i].Rule {
				t.Fatalf("StepsFor(%v) = %v", c.p, list)
			}
		}
	}
}

func TestStepsFor(t *testing.T) {
	widths := []int{2, 1}
	x, y := scan(0), scan(1)
	f := equals(0, 2)
	for _, c := range []struct {
		p    impl.Plan
		want []impl.Step
	}{
		{x, nil}, {distinct(x), nil}, {filter(col(0), x), nil}, {leftJoin(f, x, y), nil},
		{filter(and(col(0), col(1)), filter(col(1), x)), []impl.Step{step(impl.MergeFilters), step(impl.SplitFilter)}},
		{filter(lit(0), join(f, x, y)), []impl.Step{step(impl.PushLeft), step(impl.PushRight), step(impl.FilterIntoJoin), step(impl.CommuteJoin, 0)}},
		{filter(lit(0), leftJoin(f, x, y)), []impl.Step{step(impl.PushLeft), step(impl.OuterToInner)}},
		{filter(f, join(f, x, y)), []impl.Step{step(impl.FilterIntoJoin), step(impl.CommuteJoin, 0)}},
		{filter(and(col(0), col(1)), join(f, x, y)), []impl.Step{step(impl.SplitFilter), step(impl.PushLeft), step(impl.FilterIntoJoin), step(impl.CommuteJoin, 0)}},
		{
			union(project(project(x, col(1)), col(0)), filter(col(0), union(y, distinct(distinct(y))))),
			[]impl.Step{step(impl.MergeProjects, 0), step(impl.FilterUnion, 1), step(impl.DropDistinct, 1, 0, 1)},
		},
		{
			join(lit(1), filter(col(0), project(join(lit(1), y, y), col(1))), filter(col(0), filter(and(col(0), col(1)), x))),
			[]impl.Step{step(impl.CommuteJoin), step(impl.FilterProject, 0), step(impl.CommuteJoin, 0, 0, 0), step(impl.MergeFilters, 1), step(impl.SplitFilter, 1, 0)},
		},
	} {
		if got := impl.StepsFor(c.p, widths); !equal(got, c.want) {
			t.Errorf("StepsFor(%v) = %v, want %v", c.p, got, c.want)
		}
	}
}

func TestP046SplittingAMergedFilterRestoresBothFilters(t *testing.T) {
	m := &maker{state: 46}
	for _, c := range rewritablePlans(t, 46, 200) {
		width := impl.PlanWidth(c.p, c.widths)
		p := filter(m.condition(width), filter(m.condition(width), c.p))
		merged := applied(t, p, c.widths, step(impl.MergeFilters))
		if got := applied(t, merged, c.widths, step(impl.SplitFilter)); !equal(got, p) {
			t.Fatalf("merging and splitting gives %v of %v", got, p)
		}
	}
}

func TestP047AJoinCanBeCommutedAtTheRoot(t *testing.T) {
	somePairs(t, 47, func(p impl.Plan, q impl.Plan, e impl.Expr, c somePlan) {
		former := join(e, p, q)
		once := applied(t, former, c.widths, step(impl.CommuteJoin))
		if once.Kind != impl.Project || once.Kids[0].Kind != impl.Join || !equal(once.Kids[0].Kids, []impl.Plan{q, p}) {
			t.Fatalf("CommuteJoin of %v = %v", former, once)
		}
		sameResult(t, former, once, c.db)
		twice := applied(t, once, c.widths, step(impl.CommuteJoin, 0))
		sameResult(t, former, twice, c.db)
		width := impl.PlanWidth(former, c.widths)
		if got := applied(t, twice, c.widths, step(impl.MergeProjects)); !equal(got, project(former, columns(width)...)) {
			t.Fatalf("commuting %v twice gives %v", former, got)
		}
	})
	widths := []int{1}
	deep := join(equals(0, 1), stacked(impl.MaxDepth-2, scan(0)), scan(0))
	once := applied(t, deep, widths, step(impl.CommuteJoin))
	refuses(t, once, widths, step(impl.CommuteJoin, 0))
}

func TestInvalidArgumentsHaveNoSteps(t *testing.T) {
	widths := []int{2, 1}
	for i, p := range invalidPlans() {
		if list := impl.StepsFor(p, widths); list != nil {
			t.Errorf("StepsFor of the invalid plan %d = %v", i, list)
		}
		for rule := impl.MergeFilters; rule <= impl.MergeProjects; rule++ {
			for _, path := range [][]int{nil, {0}, {1}} {
				if q, ok := impl.ApplyStep(p, widths, step(rule, path...)); ok || !equal(q, impl.Plan{}) {
					t.Errorf("ApplyStep of the invalid plan %d with the rule %d = %v, %v", i, rule, q, ok)
				}
			}
		}
	}
	// The part that could be rewritten is valid, but the plan is not.
	refuses(t, union(distinct(distinct(scan(0))), scan(1)), widths, step(impl.DropDistinct, 0))
	refuses(t, stacked(impl.MaxDepth+1, scan(0)), widths, step(impl.DropDistinct))
	p := distinct(distinct(scan(0)))
	for _, wrong := range [][]int{nil, {}, {0}, {-1}, {7}, {1, 0}, {1, 7}, {1, 1, 1, 1, 1}} {
		refuses(t, p, wrong, step(impl.DropDistinct))
		if list := impl.StepsFor(p, wrong); list != nil {
			t.Errorf("StepsFor for the widths %v = %v", wrong, list)
		}
	}
	for _, rule := range []int{0, -1, 12, 100, math.MaxInt, math.MinInt} {
		refuses(t, p, widths, step(rule))
	}
	for _, path := range [][]int{{1}, {-1}, {0, 0, 0}, {0, 1}, {0}, {0, 0}, make([]int, 8), make([]int, 9), make([]int, 100), {math.MaxInt}, {math.MinInt}} {
		refuses(t, p, widths, step(impl.DropDistinct, path...))
	}
}
