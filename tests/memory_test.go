package tests

import (
	"reflect"
	"slices"
	"testing"

	"loop.example/queryoptimizer/impl"
)

// spare marks the elements between the length and the capacity of an argument.
const spare = 99

// span is the memory of a slice, with its spare capacity.
type span struct {
	from, to uintptr
}

// spansOf returns the memory of all slices in a value.
func spansOf(v reflect.Value) []span {
	var list []span
	switch v.Kind() {
	case reflect.Slice:
		if size := uintptr(v.Cap()) * v.Type().Elem().Size(); size > 0 {
			list = append(list, span{v.Pointer(), v.Pointer() + size})
		}
		full := v.Slice(0, v.Cap())
		for i := range full.Len() {
			list = append(list, spansOf(full.Index(i))...)
		}
	case reflect.Struct:
		for i := range v.NumField() {
			list = append(list, spansOf(v.Field(i))...)
		}
	}
	return list
}

// allSpans returns the memory of all slices in some values.
func allSpans(values []any) []span {
	var list []span
	for _, x := range values {
		list = append(list, spansOf(reflect.ValueOf(x))...)
	}
	return list
}

// overlap reports whether a piece of memory overlaps one of others.
func overlap(s span, others []span) bool {
	for _, o := range others {
		if s.from < o.to && o.from < s.to {
			return true
		}
	}
	return false
}

// roomy returns a copy of a value in which each slice has spare capacity with marked elements.
func roomy[T any](x T) T {
	return rebuilt(reflect.ValueOf(x), 2, false).Interface().(T)
}

// scribbled returns a copy of a value with its spare capacity.
func scribbled(x any) any {
	return rebuilt(reflect.ValueOf(x), 0, true).Interface()
}

// rebuilt returns a copy of a value; slices get additional elements, or are extended to their capacity before.
func rebuilt(v reflect.Value, more int, full bool) reflect.Value {
	result := reflect.New(v.Type()).Elem()
	switch v.Kind() {
	case reflect.Slice:
		if full {
			v = v.Slice(0, v.Cap())
		}
		result.Set(reflect.MakeSlice(v.Type(), v.Len()+more, v.Len()+more))
		for i := range v.Len() {
			result.Index(i).Set(rebuilt(v.Index(i), more, full))
		}
		for i := v.Len(); i < result.Len(); i++ {
			mark(result.Index(i))
		}
		result.Set(result.Slice(0, v.Len()))
	case reflect.Struct:
		for i := range v.NumField() {
			result.Field(i).Set(rebuilt(v.Field(i), more, full))
		}
	default:
		result.Set(v)
	}
	return result
}

// mark sets all numbers of a value, except in its slices, to a mark.
func mark(v reflect.Value) {
	switch v.Kind() {
	case reflect.Int:
		v.SetInt(spare)
	case reflect.Struct:
		for i := range v.NumField() {
			mark(v.Field(i))
		}
	}
}

// overwrite marks all elements of all slices in a value, and their spare capacity.
func overwrite(v reflect.Value) {
	switch v.Kind() {
	case reflect.Slice:
		full := v.Slice(0, v.Cap())
		for i := range full.Len() {
			overwrite(full.Index(i))
			mark(full.Index(i))
		}
	case reflect.Struct:
		for i := range v.NumField() {
			overwrite(v.Field(i))
		}
	}
}

// checkPure checks that a call does not change its arguments, that its results are new memory, and that another call has the same results.
func checkPure(t *testing.T, name string, args []any, call func() []any) {
	t.Helper()
	var before []any
	for _, x := range args {
		before = append(before, scribbled(x))
	}
	results := call()
	given := allSpans(args)
	fresh := allSpans(results)
	for i, s := range fresh {
		if overlap(s, given) {
			t.Errorf("%s: a result shares memory with an argument", name)
		}
		if overlap(s, fresh[:i]) {
			t.Errorf("%s: two slices of the results share memory", name)
		}
	}
	kept := call()
	for _, x := range results {
		overwrite(reflect.ValueOf(x))
	}
	if again := call(); !equal(again, kept) {
		t.Errorf("%s: the results change from %v to %v", name, kept, again)
	}
	for i, x := range args {
		if !equal(scribbled(x), before[i]) {
			t.Errorf("%s: argument %d changes from %v to %v", name, i, before[i], scribbled(x))
		}
	}
}

func TestMemoryOfValues(t *testing.T) {
	a, b := roomy(row("1 null 3")), roomy(row("1 2 3"))
	checkPure(t, "CompareRows", []any{a, b}, func() []any { return []any{impl.CompareRows(a, b)} })
}

func TestMemoryOfTables(t *testing.T) {
	list := roomy(rows("3 1", "null 2", "3 1", "0 0", "3 0", "null 2"))
	for width := range 3 {
		checkPure(t, "TableOf", []any{list}, func() []any {
			x, ok := impl.TableOf(width, list)
			return []any{x, ok}
		})
	}
	valid := table(t, 2, "3 1", "null 2", "3 1", "0 0")
	for _, x := range []impl.Table{valid, {Width: 2}, {Width: 2, Rows: rows("3 1", "1 1")}, {Width: 3, Rows: rows("3 1")}, tableOf(t, 1, numbered(0, 400))} {
		a, b := roomy(x), roomy(valid)
		r := roomy(row("3 1"))
		checkPure(t, "ValidTable", []any{a}, func() []any { return []any{impl.ValidTable(a)} })
		checkPure(t, "CountRow", []any{a, r}, func() []any { return []any{impl.CountRow(a, r)} })
		checkPure(t, "DistinctRows", []any{a}, func() []any {
			d, ok := impl.DistinctRows(a)
			return []any{d, ok}
		})
		for _, pair := range [][2]impl.Table{{a, b}, {b, a}, {a, a}} {
			checkPure(t, "UnionAll", []any{pair[0], pair[1]}, func() []any {
				u, ok := impl.UnionAll(pair[0], pair[1])
				return []any{u, ok}
			})
		}
	}
}

// memoryExprs returns expressions with spare capacity, most of them valid for the width 3.
func memoryExprs() []impl.Expr {
	shared := op(impl.Plus, col(0), lit(2))
	list := []impl.Expr{
		col(2), lit(4), shared, op(impl.AndExpr, shared, op(impl.AndExpr, shared, op(impl.NotExpr, col(1)))),
		op(impl.OrExpr, op(impl.LessThan, lit(1), lit(2)), col(0)), op(impl.Plus, lit(1), lit(2)), nested(8, col(0)),
		{}, op(impl.Plus, col(0)), op(impl.NotExpr, lit(10000)), nested(9, col(0)),
	}
	for _, c := range someExprs(40, 4) {
		list = append(list, c.e)
	}
	var result []impl.Expr
	for _, e := range list {
		result = append(result, roomy(e))
	}
	// Both kids have the same memory.
	kid := result[3]
	return append(result, op(impl.AndExpr, kid, kid))
}

func TestMemoryOfExpressions(t *testing.T) {
	r := roomy(row("3 null 0"))
	by := roomy([]impl.Expr{op(impl.Plus, col(0), col(1)), op(impl.NullTest, lit(1)), col(2)})
	by[2] = by[0]
	for _, e := range memoryExprs() {
		checkPure(t, "ValidExpr", []any{e}, func() []any { return []any{impl.ValidExpr(e, 3)} })
		checkPure(t, "EvalExpr", []any{e, r}, func() []any {
			v, ok := impl.EvalExpr(e, r)
			return []any{v, ok}
		})
		checkPure(t, "ColumnsOf", []any{e}, func() []any { return []any{impl.ColumnsOf(e)} })
		checkPure(t, "ExprSize", []any{e}, func() []any { return []any{impl.ExprSize(e)} })
		checkPure(t, "Substitute", []any{e, by}, func() []any {
			x, ok := impl.Substitute(e, by, 3)
			return []any{x, ok}
		})
		parts := roomy([]impl.Expr{e})
		checkPure(t, "Substitute", []any{parts}, func() []any {
			x, ok := impl.Substitute(op(impl.Minus, col(0), col(0)), parts, 3)
			return []any{x, ok}
		})
	}
}

func TestMemoryOfSimplification(t *testing.T) {
	states := roomy([]int{7, 4, 3})
	nulls := roomy([]int{1, 0, 1})
	for _, e := range memoryExprs() {
		checkPure(t, "FoldExpr", []any{e}, func() []any { return []any{impl.FoldExpr(e)} })
		checkPure(t, "Conjuncts", []any{e}, func() []any { return []any{impl.Conjuncts(e)} })
		for _, list := range [][]impl.Expr{{e}, {e, e}, {e, col(0), e}} {
			given := roomy(list)
			checkPure(t, "Conjoin", []any{given}, func() []any { return []any{impl.Conjoin(given)} })
			checkPure(t, "Conjoin", []any{list}, func() []any { return []any{impl.Conjoin(list)} })
		}
		checkPure(t, "Outcomes", []any{e, states}, func() []any { return []any{impl.Outcomes(e, states)} })
		checkPure(t, "RejectsNulls", []any{e, nulls}, func() []any { return []any{impl.RejectsNulls(e, 3, nulls)} })
	}
}

// memoryPlans returns plans with spare capacity, most of them valid for the widths 2 and 1.
func memoryPlans() []impl.Plan {
	both := join(lit(1), scan(0), scan(0))
	list := append(basicPlans(), both, union(both, both), distinct(union(scan(1), scan(1))), group(both), group(both, 0, 2), project(both, columns(4)...))
	list = append(list, leftJoin(val(null), scan(0), scan(1)), filter(lit(1), filter(col(1), scan(0))), union(scan(0), scan(1)), scan(2), impl.Plan{})
	var result []impl.Plan
	for _, p := range list {
		result = append(result, roomy(p))
	}
	// Both kids, and their expressions, have the same memory.
	kid := result[1]
	return append(result, union(kid, kid), join(kid.Exprs[0], kid, kid))
}

func TestMemoryOfPlans(t *testing.T) {
	widths := roomy([]int{2, 1})
	db := roomy([]impl.Table{table(t, 2, "null 1", "1 null", "1 2", "1 2", "3 1"), table(t, 1, "null", "1", "1", "4")})
	for _, p := range memoryPlans() {
		checkPure(t, "PlanWidth", []any{p, widths}, func() []any { return []any{impl.PlanWidth(p, widths)} })
		checkPure(t, "PlanSize", []any{p, widths}, func() []any { return []any{impl.PlanSize(p, widths)} })
		checkPure(t, "TablesOf", []any{p, widths}, func() []any { return []any{impl.TablesOf(p, widths)} })
		checkPure(t, "EvalPlan", []any{p, db}, func() []any {
			x, ok := impl.EvalPlan(p, db)
			return []any{x, ok}
		})
	}
}

func TestMemoryOfProperties(t *testing.T) {
	widths := roomy([]int{2, 1})
	flags := roomy([][]bool{{false, true}, {true}})
	counts := roomy([]int{3, 400})
	sets := roomy([]bool{true, false})
	for _, p := range memoryPlans() {
		checkPure(t, "NullableColumns", []any{p, widths, flags}, func() []any { return []any{impl.NullableColumns(p, widths, flags)} })
		checkPure(t, "RowBound", []any{p, widths, counts}, func() []any { return []any{impl.RowBound(p, widths, counts)} })
		checkPure(t, "IsDuplicateFree", []any{p, widths, sets}, func() []any { return []any{impl.IsDuplicateFree(p, widths, sets)} })
	}
}

// memoryRewritings returns plans with spare capacity to which steps can be applied, valid for the widths 2 and 1.
func memoryRewritings() []impl.Plan {
	f := equals(0, 2)
	list := []impl.Plan{
		filter(col(0), filter(col(1), scan(0))), filter(and(f, lit(0)), join(f, scan(0), scan(1))), filter(and(f, f), leftJoin(f, scan(0), scan(1))),
		filter(col(1), union(scan(0), union(scan(0), scan(0)))), distinct(distinct(group(scan(0), 0, 1))),
		filter(equals(0, 1), project(scan(0), op(impl.Plus, col(0), col(1)), col(1))),
		project(project(project(scan(0), equals(0, 1), col(0)), equals(0, 1), col(0), col(0)), equals(0, 0), col(1), col(1)),
	}
	for _, c := range []uint64{1, 2, 3, 4, 5, 6, 7, 8} {
		p, _ := (&maker{state: c}).rewritable([]int{2, 1}, 4)
		list = append(list, p)
	}
	var result []impl.Plan
	for _, p := range append(list, distinct(union(list[0], list[3]))) {
		result = append(result, roomy(p))
	}
	// Both kids, and their expressions, have the same memory.
	kid := result[0]
	return append(result, filter(kid.Exprs[0], union(kid, kid)), filter(kid.Exprs[0], join(kid.Exprs[0], kid, kid)), project(project(scan(0), kid.Exprs[0], kid.Exprs[0]), kid.Exprs[0], kid.Exprs[0]))
}

func TestMemoryOfRewriting(t *testing.T) {
	widths := roomy([]int{2, 1})
	for _, p := range append(memoryPlans(), memoryRewritings()...) {
		checkPure(t, "StepsFor", []any{p, widths}, func() []any { return []any{impl.StepsFor(p, widths)} })
		for _, path := range [][]int{nil, {0}, {1}, {0, 0}, {2}} {
			at := roomy(path)
			checkPure(t, "PlanAt", []any{p, at}, func() []any {
				q, ok := impl.PlanAt(p, at)
				return []any{q, ok}
			})
			for rule := 0; rule <= impl.MergeProjects; rule++ {
				s := roomy(step(rule, path...))
				checkPure(t, "ApplyStep", []any{p, widths, s}, func() []any {
					q, ok := impl.ApplyStep(p, widths, s)
					return []any{q, ok}
				})
			}
		}
	}
}

func TestMemoryOfCertificates(t *testing.T) {
	widths := roomy([]int{2, 1})
	m := &maker{state: 800}
	for _, p := range append(memoryPlans(), memoryRewritings()...) {
		checkPure(t, "Normalize", []any{p, widths}, func() []any {
			q, steps := impl.Normalize(p, widths)
			return []any{q, steps}
		})
		checkPure(t, "IsNormal", []any{p, widths}, func() []any { return []any{impl.IsNormal(p, widths)} })
		for range 10 {
			list, after := m.walk(t, p, widths, m.below(6))
			steps, q := roomy(list), roomy(after)
			checkPure(t, "ApplySteps", []any{p, widths, steps}, func() []any {
				r, ok := impl.ApplySteps(p, widths, steps)
				return []any{r, ok}
			})
			checkPure(t, "CheckRewrite", []any{p, q, widths, steps}, func() []any { return []any{impl.CheckRewrite(p, q, widths, steps)} })
		}
	}
}

func TestMemoryOfStatistics(t *testing.T) {
	for _, x := range append(invalidTables(), table(t, 2, "null 1", "1 null", "1 2", "1 2"), table(t, 3), tableOf(t, 1, numbered(0, 400))) {
		given := roomy(x)
		checkPure(t, "StatsOf", []any{given}, func() []any { return []any{impl.StatsOf(given)} })
	}
	for _, c := range append(invalidStats(), statistics(9, 2, 1, 3, 3, 0, 9), statistics(0, 0, 0)) {
		s := roomy(c)
		checkPure(t, "ValidStats", []any{s}, func() []any { return []any{impl.ValidStats(s, len(s.Distinct))} })
		for _, e := range memoryExprs() {
			checkPure(t, "Selectivity", []any{e, s}, func() []any { return []any{impl.Selectivity(e, s)} })
		}
	}
	for _, list := range [][]impl.Stats{{statistics(9, 2, 1, 3, 3), full(4)}, {full(4)}, {statistics(9, 2, 1, 3, 3), {}}} {
		stats := roomy(list)
		for _, p := range append(memoryPlans(), memoryRewritings()...) {
			checkPure(t, "EstimateRows", []any{p, stats}, func() []any { return []any{impl.EstimateRows(p, stats)} })
		}
	}
}

func TestMemoryOfCosts(t *testing.T) {
	db := roomy([]impl.Table{table(t, 2, "null 1", "1 null", "1 2", "1 2", "3 1"), table(t, 1, "null", "1", "1", "4")})
	plans := append(memoryPlans(), memoryRewritings()...)
	for _, list := range [][]impl.Stats{{statistics(9, 2, 1, 3, 3), full(4)}, {full(4)}, {statistics(9, 2, 1, 3, 3), {}}} {
		stats := roomy(list)
		for _, p := range plans {
			checkPure(t, "PlanCost", []any{p, db}, func() []any { return []any{impl.PlanCost(p, db)} })
			checkPure(t, "EstimateCost", []any{p, stats}, func() []any { return []any{impl.EstimateCost(p, stats)} })
			checkPure(t, "Improve", []any{p, stats}, func() []any {
				q, s := impl.Improve(p, stats)
				return []any{q, s}
			})
		}
		for _, count := range []int{0, 1, impl.MaxPlans, impl.MaxPlans + 1} {
			some := roomy(plans[:count])
			checkPure(t, "CheapestPlan", []any{some, stats}, func() []any { return []any{impl.CheapestPlan(some, stats)} })
		}
	}
}

// memoryTrees returns trees with spare capacity, valid and invalid ones.
func memoryTrees() []impl.JoinTree {
	pair := tree(leaf(2), leaf(1))
	var result []impl.JoinTree
	for _, x := range []impl.JoinTree{leaf(0), leaf(7), pair, tree(leaf(0), pair), tree(tree(leaf(3), pair), tree(leaf(4), leaf(0))), tree(pair, leaf(1)), {Leaf: 1, Kids: pair.Kids}, {Kids: pair.Kids[:1]}} {
		result = append(result, roomy(x))
	}
	// Both kids have the same memory.
	return append(result, tree(result[2], result[2]))
}

func TestMemoryOfJoinTrees(t *testing.T) {
	m := &maker{state: 1100}
	list := append(validGraphs(), invalidGraphs()...)
	for range 20 {
		list = append(list, m.graph())
	}
	for _, c := range list {
		g := roomy(c)
		checkPure(t, "ValidGraph", []any{g}, func() []any { return []any{impl.ValidGraph(g)} })
		checkPure(t, "SubsetSize", []any{g}, func() []any { return []any{impl.SubsetSize(g, 1), impl.SubsetSize(g, 3), impl.SubsetSize(g, 31)} })
		checkPure(t, "BestTree", []any{g}, func() []any {
			x, n := impl.BestTree(g)
			return []any{x, n}
		})
		checkPure(t, "BestOrder", []any{g}, func() []any {
			order, n := impl.BestOrder(g)
			return []any{order, n}
		})
		checkPure(t, "GreedyTree", []any{g}, func() []any {
			x, n := impl.GreedyTree(g)
			return []any{x, n}
		})
		checkPure(t, "BestCosts", []any{g}, func() []any { return []any{impl.BestCosts(g)} })
		for _, costs := range [][]int{roomy(impl.BestCosts(g)), roomy([]int{0, 0, 0, 1}), nil} {
			checkPure(t, "CheckCosts", []any{g, costs}, func() []any { return []any{impl.CheckCosts(g, costs)} })
		}
		for _, x := range memoryTrees() {
			checkPure(t, "TreeCost", []any{g, x}, func() []any { return []any{impl.TreeCost(g, x)} })
			checkPure(t, "LeavesOf", []any{g, x}, func() []any { return []any{impl.LeavesOf(g, x)} })
		}
	}
}

// memoryQueries returns queries with spare capacity, valid and invalid ones.
func memoryQueries() []impl.Rule {
	m := &maker{state: 1400}
	list := append(validQueries(), invalidQueries()[:12]...)
	for range 20 {
		list = append(list, m.query(m.below(4)))
	}
	var result []impl.Rule
	for _, q := range list {
		result = append(result, roomy(q))
	}
	return result
}

func TestMemoryOfConjunctiveQueries(t *testing.T) {
	m := &maker{state: 1401}
	lists := append(validFacts(), invalidFacts()...)
	for range 5 {
		lists = append(lists, m.facts(14))
	}
	for _, list := range lists {
		facts := roomy(list)
		checkPure(t, "ValidFacts", []any{facts}, func() []any { return []any{impl.ValidFacts(facts)} })
		for _, q := range memoryQueries() {
			checkPure(t, "Answers", []any{q, facts}, func() []any { return []any{impl.Answers(q, facts)} })
		}
	}
	for _, q := range memoryQueries() {
		checkPure(t, "ValidRule", []any{q}, func() []any { return []any{impl.ValidRule(q)} })
		checkPure(t, "Freeze", []any{q}, func() []any { return []any{impl.Freeze(q)} })
	}
}

func TestMemoryOfContainment(t *testing.T) {
	mappings := [][]int{roomy(identity(6)), roomy(identity(3)), roomy([]int{0}), nil}
	for _, q := range memoryQueries() {
		checkPure(t, "IsMinimal", []any{q}, func() []any { return []any{impl.IsMinimal(q)} })
		checkPure(t, "Minimize", []any{q}, func() []any { return []any{impl.Minimize(q)} })
		for _, r := range append(memoryQueries(), q) {
			checkPure(t, "FindHomomorphism", []any{q, r}, func() []any {
				h, ok := impl.FindHomomorphism(q, r)
				return []any{h, ok}
			})
			checkPure(t, "IsContained", []any{q, r}, func() []any { return []any{impl.IsContained(q, r)} })
			for _, h := range mappings {
				checkPure(t, "CheckHomomorphism", []any{q, r, h}, func() []any { return []any{impl.CheckHomomorphism(q, r, h)} })
			}
		}
	}
}

// memoryTables returns tables with spare capacity, valid and invalid ones.
func memoryTables(t *testing.T) []impl.Table {
	t.Helper()
	list := append(invalidTables(), impl.Table{Width: 2}, table(t, 2, "null 1", "1 null", "1 2", "1 2", "2 0", "3 1"), tableOf(t, 1, numbered(0, impl.MaxRows)))
	list = append(list, someTables(t, 3)...)
	var result []impl.Table
	for _, x := range list {
		result = append(result, roomy(x))
	}
	// All rows have the same memory.
	one := roomy(row("1 2 3"))
	return append(result, impl.Table{Width: 3, Rows: [][]impl.Value{one, one, one}})
}

// memoryDependencies returns dependencies with spare capacity, valid and invalid ones, with their widths.
func memoryDependencies() ([][]impl.Dependency, []int) {
	lists, widths := [][]impl.Dependency{nil, roomy(deps(1, 9)), roomy(deps(0, 1, -1, 2)), roomy(deps(1, 7)), roomy(pairsToBoth())}, []int{1, 3, 3, 9, 6}
	someDependencies(1500, 60, func(_ *maker, fds []impl.Dependency, width int) {
		lists, widths = append(lists, roomy(fds)), append(widths, width)
	})
	return lists, widths
}

func TestMemoryOfDependencies(t *testing.T) {
	lists, widths := memoryDependencies()
	for i, fds := range lists {
		width, f := widths[i], dep(1, 6)
		checkPure(t, "ValidDependencies", []any{fds}, func() []any { return []any{impl.ValidDependencies(fds, width)} })
		for _, set := range []int{0, 1, 3, 70} {
			checkPure(t, "ClosureOf", []any{fds}, func() []any { return []any{impl.ClosureOf(fds, width, set)} })
			checkPure(t, "Derivation", []any{fds}, func() []any { return []any{impl.Derivation(fds, width, set)} })
			checkPure(t, "IsKey", []any{fds}, func() []any { return []any{impl.IsKey(fds, width, set)} })
		}
		checkPure(t, "Implies", []any{fds}, func() []any { return []any{impl.Implies(fds, width, f)} })
		for _, list := range [][]int{nil, {0}, {0, 1, 0}, impl.Derivation(fds, width, 1)} {
			steps := roomy(list)
			checkPure(t, "CheckDerivation", []any{fds, steps}, func() []any { return []any{impl.CheckDerivation(fds, width, f, steps)} })
		}
		checkPure(t, "CandidateKeys", []any{fds}, func() []any { return []any{impl.CandidateKeys(fds, width)} })
		checkPure(t, "MinimalCover", []any{fds}, func() []any { return []any{impl.MinimalCover(fds, width)} })
		checkPure(t, "IsNormalForm", []any{fds}, func() []any { return []any{impl.IsNormalForm(fds, width)} })
		if cover := roomy(impl.MinimalCover(fds, width)); len(cover) > 0 {
			checkPure(t, "MinimalCover", []any{cover}, func() []any { return []any{impl.MinimalCover(cover, width)} })
		}
	}
	for _, x := range memoryTables(t) {
		for _, f := range deps(1, 2, 0, 1, 3, 4) {
			checkPure(t, "HoldsIn", []any{x}, func() []any { return []any{impl.HoldsIn(f, x)} })
		}
	}
}

func TestMemoryOfRanges(t *testing.T) {
	m := &maker{state: 1700}
	list := memoryExprs()
	for range 40 {
		list = append(list, roomy(m.restriction(3, 3)))
	}
	for _, e := range list {
		checkPure(t, "RangeOf", []any{e}, func() []any {
			r, ok := impl.RangeOf(e, 3, 1)
			return []any{r, ok}
		})
	}
	for _, x := range memoryTables(t) {
		for c := range 3 {
			checkPure(t, "IndexOf", []any{x}, func() []any { return []any{impl.IndexOf(x, c)} })
			for _, r := range []impl.Range{between(-9999, 9999), between(0, 1), between(1, 0)} {
				checkPure(t, "ScanRange", []any{x}, func() []any {
					y, ok := impl.ScanRange(x, c, r)
					return []any{y, ok}
				})
			}
		}
	}
}

func TestMemoryOfOrders(t *testing.T) {
	m := &maker{state: 1800}
	var lists [][]impl.SortKey
	for _, keys := range [][]impl.SortKey{nil, keysOf(up(0)), keysOf(down(1), up(0)), keysOf(up(0), up(0)), m.keys(3), m.keys(3), keysOf(down(2), down(1), up(0))} {
		lists = append(lists, roomy(keys))
	}
	for _, x := range memoryTables(t) {
		for _, keys := range lists {
			checkPure(t, "SortRows", []any{x, keys}, func() []any { return []any{impl.SortRows(x, keys)} })
			for _, n := range []int{-1, 0, 1, 3, 1000} {
				checkPure(t, "TopRows", []any{x, keys}, func() []any { return []any{impl.TopRows(x, keys, n)} })
			}
			for _, list := range [][][]impl.Value{x.Rows, roomy(impl.SortRows(x, keys))} {
				checkPure(t, "IsSorted", []any{list, keys}, func() []any { return []any{impl.IsSorted(list, keys)} })
			}
		}
	}
	for _, has := range lists {
		for _, want := range lists {
			checkPure(t, "OrderCovers", []any{has, want}, func() []any { return []any{impl.OrderCovers(has, want)} })
		}
	}
}

// checkPair checks a function of two tables.
func checkPair(t *testing.T, name string, a impl.Table, b impl.Table, f func() (impl.Table, bool)) {
	t.Helper()
	checkPure(t, name, []any{a, b}, func() []any {
		x, ok := f()
		return []any{x, ok}
	})
}

func TestMemoryOfPhysicalJoins(t *testing.T) {
	for _, a := range memoryTables(t) {
		for _, n := range []int{0, 1, 2, 40} {
			checkPure(t, "BucketSizes", []any{a}, func() []any { return []any{impl.BucketSizes(a, 0, n)} })
		}
		for _, b := range append(memoryTables(t), a) {
			for _, n := range []int{0, 1, 2, 40} {
				checkPair(t, "HashJoin", a, b, func() (impl.Table, bool) { return impl.HashJoin(a, b, 0, 0, n) })
			}
			checkPair(t, "MergeJoin", a, b, func() (impl.Table, bool) { return impl.MergeJoin(a, b, 0, 0) })
		}
	}
}

func TestMemoryOfSemijoins(t *testing.T) {
	for _, a := range memoryTables(t) {
		for _, b := range append(memoryTables(t), a, impl.Table{Width: 1}) {
			for _, c := range []int{0, 1} {
				checkPair(t, "SemiJoin", a, b, func() (impl.Table, bool) { return impl.SemiJoin(a, b, c, 0) })
				checkPair(t, "AntiJoin", a, b, func() (impl.Table, bool) { return impl.AntiJoin(a, b, c, 0) })
				checkPair(t, "NotIn", a, b, func() (impl.Table, bool) { return impl.NotIn(a, b, c, 0) })
			}
		}
	}
}

func TestMemoryOfSetOperations(t *testing.T) {
	m := &maker{state: 2100}
	for _, a := range memoryTables(t) {
		list := append(memoryTables(t), a)
		if impl.ValidTable(a) && len(a.Rows) < impl.MaxRows {
			list = append(list, roomy(m.related(t, a)), roomy(m.related(t, a)))
		}
		for _, b := range list {
			checkPair(t, "IntersectAll", a, b, func() (impl.Table, bool) { return impl.IntersectAll(a, b) })
			checkPair(t, "ExceptAll", a, b, func() (impl.Table, bool) { return impl.ExceptAll(a, b) })
			checkPure(t, "IsSubtable", []any{a, b}, func() []any { return []any{impl.IsSubtable(a, b)} })
		}
	}
}

func TestMemoryOfAggregates(t *testing.T) {
	for _, kind := range append([]int{0}, kinds...) {
		for _, s := range []string{"", "null", "3 null 1 2", "9999 9999", "10000"} {
			values := roomy(row(s))
			checkPure(t, "Aggregate", []any{values}, func() []any {
				v, ok := impl.Aggregate(values, kind)
				return []any{v, ok}
			})
		}
		for _, x := range memoryTables(t) {
			for _, list := range [][]int{nil, {0}, {1}, {0, 1}, {1, 0}, {0, 1, 2}} {
				cols := roomy(list)
				checkPure(t, "GroupBy", []any{x, cols}, func() []any {
					y, ok := impl.GroupBy(x, cols, kind, 0)
					return []any{y, ok}
				})
			}
		}
	}
}

func TestMemoryOfTexts(t *testing.T) {
	widths := roomy([]int{2, 1})
	texts := slices.Concat(malformedPlans(), malformedExprs())
	for _, e := range memoryExprs() {
		checkPure(t, "EncodeExpr", []any{e}, func() []any { return []any{impl.EncodeExpr(e)} })
		texts = append(texts, impl.EncodeExpr(e))
	}
	for _, p := range append(memoryPlans(), memoryRewritings()...) {
		checkPure(t, "EncodePlan", []any{p, widths}, func() []any { return []any{impl.EncodePlan(p, widths)} })
		texts = append(texts, impl.EncodePlan(p, widths))
	}
	for _, text := range texts {
		checkPure(t, "DecodeExpr", nil, func() []any {
			e, ok := impl.DecodeExpr(text)
			return []any{e, ok}
		})
		checkPure(t, "DecodePlan", []any{widths}, func() []any {
			p, ok := impl.DecodePlan(text, widths)
			return []any{p, ok}
		})
	}
}

func TestMemoryOfParameters(t *testing.T) {
	for _, e := range memoryExprs() {
		for width := 1; width <= impl.MaxWidth; width++ {
			checkPure(t, "Extract", []any{e}, func() []any {
				x, values, ok := impl.Extract(e, width)
				return []any{x, values, ok}
			})
			for _, s := range []string{"", "1", "null 2", "1 2 3 4 5", "10000"} {
				values := roomy(row(s))
				checkPure(t, "Bind", []any{e, values}, func() []any {
					x, ok := impl.Bind(e, width, values)
					return []any{x, ok}
				})
			}
		}
	}
	widths := roomy([]int{2, 1})
	for _, p := range append(memoryPlans(), memoryRewritings()...) {
		checkPure(t, "CacheKey", []any{p, widths}, func() []any { return []any{impl.CacheKey(p, widths)} })
	}
}

func TestMemoryOfViews(t *testing.T) {
	widths := roomy([]int{2, 1, 2, 3})
	db := roomy([]impl.Table{table(t, 2, "null 1", "1 null", "1 2", "1 2", "3 1"), table(t, 1, "null", "1", "1", "4"), {Width: 2}, table(t, 3, "1 2 3")})
	bad := roomy([]impl.Table{table(t, 2, "1 2"), {Width: 1, Rows: rows("2", "1")}})
	stored := scan(2)
	plans := append(memoryPlans(), roomy(stored), roomy(union(stored, distinct(stored))), roomy(join(lit(1), stored, scan(0))))
	views := append(plans[:8:8], roomy(filter(lit(1), scan(0))), roomy(stored))
	for _, view := range views {
		for n := range widths {
			// The view is a part of one of the plans, with the same memory.
			for _, p := range append(plans, view, union(view, view), distinct(union(view, stored))) {
				checkPure(t, "FoldView", []any{p, view, widths}, func() []any {
					q, count := impl.FoldView(p, view, widths, n)
					return []any{q, count}
				})
				checkPure(t, "ExpandView", []any{p, view, widths}, func() []any {
					q, ok := impl.ExpandView(p, view, widths, n)
					return []any{q, ok}
				})
			}
			for _, tables := range [][]impl.Table{db, bad} {
				checkPure(t, "Materialize", []any{tables, view}, func() []any {
					result, ok := impl.Materialize(tables, view, n)
					return []any{result, ok}
				})
			}
		}
	}
	// Two tables have the same memory.
	same := []impl.Table{db[0], db[0], db[1]}
	checkPure(t, "Materialize", []any{same}, func() []any {
		result, ok := impl.Materialize(same, scan(0), 1)
		return []any{result, ok}
	})
}

func TestMemoryOfSessions(t *testing.T) {
	m := &maker{state: 2610}
	for range 60 {
		db := roomy(m.db(t, 5))
		lines := roomy(m.session(widthsOf(db)))
		checkPure(t, "RunSession", []any{db, lines}, func() []any { return []any{impl.RunSession(db, lines)} })
	}
	for _, x := range memoryTables(t) {
		db := []impl.Table{x, x}
		lines := roomy([]string{"load (join #0 (scan 0) (scan 1))", "step 0", "run", "load (scan 1)", "run"})
		checkPure(t, "RunSession", []any{db, lines}, func() []any { return []any{impl.RunSession(db, lines)} })
	}
}
