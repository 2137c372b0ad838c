package tests

import (
	"math"
	"slices"
	"testing"

	"loop.example/queryoptimizer/impl"
)

// constantsOf returns the constants of an expression from left to right.
func constantsOf(e impl.Expr) []impl.Value {
	if e.Kind == impl.Constant {
		return []impl.Value{e.Val}
	}
	var values []impl.Value
	for _, kid := range e.Kids {
		values = append(values, constantsOf(kid)...)
	}
	return values
}

// replacedLeaves returns an expression in which a function has replaced the expressions without kids from left to right.
func replacedLeaves(e impl.Expr, replace func(leaf impl.Expr) impl.Expr) impl.Expr {
	if len(e.Kids) == 0 {
		return replace(e)
	}
	var kids []impl.Expr
	for _, kid := range e.Kids {
		kids = append(kids, replacedLeaves(kid, replace))
	}
	return op(e.Kind, kids...)
}

// checkExtract checks Extract of an expression that is valid for the width.
func checkExtract(t *testing.T, e impl.Expr, width int) bool {
	t.Helper()
	next := width - 1
	want := replacedLeaves(e, func(leaf impl.Expr) impl.Expr {
		if leaf.Kind == impl.Column {
			return leaf
		}
		next++
		return col(next)
	})
	x, values, ok := impl.Extract(e, width)
	if next >= impl.MaxWidth {
		if ok || !equal(x, impl.Expr{}) || len(values) != 0 {
			t.Fatalf("Extract(%v, %d) = %v, %v, %v", e, width, x, values, ok)
		}
		return false
	}
	if !ok || !equal(x, want) || !equal(values, constantsOf(e)) {
		t.Fatalf("Extract(%v, %d) = %v, %v, %v, want %v", e, width, x, values, ok, want)
	}
	return true
}

func TestExtract(t *testing.T) {
	for _, c := range []struct {
		e      impl.Expr
		width  int
		want   impl.Expr
		values string
	}{
		{op(impl.LessThan, lit(2), op(impl.Plus, col(0), val(null))), 1, op(impl.LessThan, col(1), op(impl.Plus, col(0), col(2))), "2 null"},
		{lit(-7), 1, col(1), "-7"}, {lit(0), 5, col(5), "0"}, {val(null), 3, col(3), "null"}, {col(0), 1, col(0), ""}, {col(5), 6, col(5), ""},
		{op(impl.Plus, lit(4), lit(4)), 2, op(impl.Plus, col(2), col(3)), "4 4"},
		{op(impl.Minus, op(impl.Minus, lit(1), lit(-9999)), op(impl.Minus, lit(3), lit(9999))), 2, op(impl.Minus, op(impl.Minus, col(2), col(3)), op(impl.Minus, col(4), col(5))), "1 -9999 3 9999"},
		{and(not(lit(0)), op(impl.NullTest, and(val(null), equals(2, 1)))), 3, and(not(col(3)), op(impl.NullTest, and(col(4), equals(2, 1)))), "0 null"},
		{and(and(lit(1), lit(2)), and(lit(3), and(lit(4), lit(5)))), 1, and(and(col(1), col(2)), and(col(3), and(col(4), col(5)))), "1 2 3 4 5"},
		{nested(impl.MaxLevels, lit(8)), 4, nested(impl.MaxLevels, col(4)), "8"}, {equals(0, 5), 6, equals(0, 5), ""},
	} {
		x, values, ok := impl.Extract(c.e, c.width)
		if !ok || !equal(x, c.want) || !equal(values, row(c.values)) {
			t.Errorf("Extract(%v, %d) = %v, %v, %v, want %v, %v", c.e, c.width, x, values, ok, c.want, c.values)
		}
		if y, ok := impl.Bind(c.want, c.width, row(c.values)); !ok || !equal(y, c.e) {
			t.Errorf("Bind(%v, %d, %v) = %v, %v, want %v", c.want, c.width, c.values, y, ok, c.e)
		}
	}
}

func TestExtractRefuses(t *testing.T) {
	refused := func(e impl.Expr, width int) {
		t.Helper()
		if x, values, ok := impl.Extract(e, width); ok || !equal(x, impl.Expr{}) || len(values) != 0 {
			t.Errorf("Extract(%v, %d) = %v, %v, %v", e, width, x, values, ok)
		}
	}
	five := and(and(lit(1), lit(1)), and(lit(1), and(val(null), lit(1))))
	refused(five, 2)
	refused(and(five, lit(1)), 1)
	refused(lit(1), impl.MaxWidth)
	refused(val(null), impl.MaxWidth)
	refused(and(col(0), and(lit(0), lit(0))), 5)
	refused(bushOf(impl.MaxLevels, lit(3)), 1)
	for width := 1; width < impl.MaxWidth; width++ {
		refused(col(width), width)
		refused(and(lit(1), col(width)), width)
	}
	for _, width := range wrongWidths() {
		refused(col(0), width)
		refused(lit(1), width)
	}
	for _, e := range invalidExprs() {
		for width := 1; width <= impl.MaxWidth; width++ {
			refused(e, width)
		}
	}
}

// bushOf returns an expression with a number of levels of kids and the same expression in all places without kids.
func bushOf(levels int, leaf impl.Expr) impl.Expr {
	return replacedLeaves(bush(levels), func(impl.Expr) impl.Expr { return leaf })
}

func TestP127BindingInvertsExtraction(t *testing.T) {
	extracted, refused := 0, 0
	for _, c := range someExprs(3000, 5) {
		for width := c.width; width <= impl.MaxWidth; width++ {
			if !checkExtract(t, c.e, width) {
				refused++
				continue
			}
			x, values, _ := impl.Extract(c.e, width)
			if y, ok := impl.Bind(x, width, values); !ok || !equal(y, c.e) {
				t.Fatalf("Bind(%v, %d, %v) = %v, %v, want %v", x, width, values, y, ok, c.e)
			}
			if len(values) > 1 {
				extracted++
			}
		}
	}
	if extracted < 500 || refused < 500 {
		t.Errorf("only %d expressions have more than one constant, only %d have too many", extracted, refused)
	}
}

func TestBind(t *testing.T) {
	for _, c := range []struct {
		e      impl.Expr
		width  int
		values string
		want   impl.Expr
	}{
		{col(0), 1, "", col(0)}, {col(5), 6, "", col(5)}, {equals(0, 1), 1, "-9999", op(impl.EqualTo, col(0), lit(-9999))}, {col(1), 1, "null", val(null)},
		{and(col(3), and(col(1), col(2))), 1, "7 8 9", and(lit(9), and(lit(7), lit(8)))}, {and(col(5), col(5)), 3, "1 2 3", and(lit(3), lit(3))},
		{and(lit(4), col(2)), 2, "5", and(lit(4), lit(5))}, {col(0), 1, "1 2 3 4 5", col(0)}, {lit(3), 2, "1 2", lit(3)}, {col(5), 1, "1 2 3 4 5", lit(5)},
		{nested(impl.MaxLevels, col(1)), 1, "0", nested(impl.MaxLevels, lit(0))},
	} {
		if got, ok := impl.Bind(c.e, c.width, row(c.values)); !ok || !equal(got, c.want) {
			t.Errorf("Bind(%v, %d, %v) = %v, %v, want %v", c.e, c.width, c.values, got, ok, c.want)
		}
	}
}

func TestBindRefuses(t *testing.T) {
	refused := func(e impl.Expr, width int, values []impl.Value) {
		t.Helper()
		if x, ok := impl.Bind(e, width, values); ok || !equal(x, impl.Expr{}) {
			t.Errorf("Bind(%v, %d, %v) = %v, %v", e, width, values, x, ok)
		}
	}
	for _, width := range wrongWidths() {
		for count := range 70 {
			refused(col(0), width, make([]impl.Value, count))
			refused(lit(1), width, make([]impl.Value, count))
		}
	}
	refused(col(0), math.MinInt, make([]impl.Value, 1000))
	refused(col(0), -2, row("1 2 3"))
	refused(col(0), 0, row("1"))
	for width := 1; width <= impl.MaxWidth; width++ {
		for count := range 8 {
			values := slices.Repeat(row("3"), count)
			refused(col(width+count), width, values)
			if width+count > impl.MaxWidth {
				refused(col(0), width, values)
				refused(lit(1), width, values)
			}
			for _, e := range invalidExprs() {
				refused(e, width, values)
			}
		}
	}
	for _, v := range invalidValues {
		refused(col(0), 1, []impl.Value{v})
		refused(lit(1), 1, []impl.Value{num(1), v})
		refused(col(1), 1, []impl.Value{v, num(1)})
		refused(col(0), 1, append(slices.Repeat(row("3"), 1000), v))
	}
}

func TestP128BoundExpressionsHaveTheValueForTheLongerRow(t *testing.T) {
	m := &maker{state: 128}
	for _, c := range someExprs(3000, 4) {
		for width := 1; width <= c.width; width++ {
			values := m.row(c.width - width)
			x, ok := impl.Bind(c.e, width, values)
			if !ok || !impl.ValidExpr(x, width) {
				t.Fatalf("Bind(%v, %d, %v) = %v, %v", c.e, width, values, x, ok)
			}
			r := m.row(width)
			if got, want := eval(t, x, r), eval(t, c.e, slices.Concat(r, values)); got != want {
				t.Fatalf("%v of Bind(%v, %d, %v) has the value %v, want %v", r, c.e, width, values, got, want)
			}
		}
	}
}

// withConstants returns a plan in which each constant is replaced by what a function returns.
func withConstants(p impl.Plan, constant func() impl.Value) impl.Plan {
	result := impl.Plan{Kind: p.Kind, Table: p.Table, Cols: p.Cols}
	for _, e := range p.Exprs {
		result.Exprs = append(result.Exprs, replacedLeaves(e, func(leaf impl.Expr) impl.Expr {
			if leaf.Kind == impl.Constant {
				return val(constant())
			}
			return leaf
		}))
	}
	for _, kid := range p.Kids {
		result.Kids = append(result.Kids, withConstants(kid, constant))
	}
	return result
}

// zero returns the number 0.
func zero() impl.Value {
	return num(0)
}

func TestCacheKey(t *testing.T) {
	widths := []int{2, 1}
	for _, c := range []struct {
		p    impl.Plan
		want string
	}{
		{scan(1), "(scan 1)"}, {filter(lit(-5), scan(0)), "(filter 0 (scan 0))"}, {filter(val(null), scan(0)), "(filter 0 (scan 0))"}, {filter(lit(0), scan(0)), "(filter 0 (scan 0))"},
		{project(scan(0), lit(1), col(1), not(val(null)), lit(9999)), "(project 0 #1 (not 0) 0 (scan 0))"},
		{join(op(impl.LessThan, col(2), lit(7)), filter(lit(1), scan(0)), distinct(filter(op(impl.EqualTo, lit(3), col(0)), scan(1)))), "(join (< #2 0) (filter 0 (scan 0)) (distinct (filter (= 0 #0) (scan 1))))"},
		{leftJoin(lit(1), group(filter(equals(0, 1), scan(0)), 1), scan(1)), "(left 0 (group #1 (filter (= #0 #1) (scan 0))) (scan 1))"},
		{union(project(scan(0), lit(8)), scan(1)), "(union (project 0 (scan 0)) (scan 1))"},
	} {
		if got := impl.CacheKey(c.p, widths); got != c.want {
			t.Errorf("CacheKey(%v) = %q, want %q", c.p, got, c.want)
		}
	}
	for i, p := range append(invalidPlans(), filter(lit(10000), scan(0)), filter(val(impl.Value{Null: true, N: 1}), scan(0)), project(scan(1), lit(1), lit(-10000))) {
		if s := impl.CacheKey(p, widths); s != "" {
			t.Errorf("CacheKey of the invalid plan %d = %q", i, s)
		}
	}
	for _, wrong := range [][]int{nil, {0}, {-1}, {7}, {2, 0}, {2, 7}, {1, 1, 1, 1, 1}} {
		if s := impl.CacheKey(scan(0), wrong); s != "" {
			t.Errorf("CacheKey for the widths %v = %q", wrong, s)
		}
	}
}

func TestP129ConstantsDoNotMatterForTheCache(t *testing.T) {
	widths := []int{2, 1}
	for _, kind := range []int{impl.EqualTo, impl.LessThan} {
		for _, p := range []impl.Plan{scan(0), distinct(scan(1)), join(lit(1), scan(0), scan(1))} {
			keys := map[string]bool{}
			for _, v := range orderedValues {
				keys[impl.CacheKey(filter(op(kind, col(0), val(v)), p), widths)] = true
			}
			want := "(filter (" + exprNames[kind] + " #0 0) " + slowPlanText(withConstants(p, zero)) + ")"
			if len(keys) != 1 || !keys[want] {
				t.Errorf("CacheKey has the results %v, want %q", keys, want)
			}
		}
	}
	m := &maker{state: 129}
	for _, c := range append(somePlans(t, 129, 300), rewritablePlans(t, 1290, 300)...) {
		want := slowPlanText(withConstants(c.p, zero))
		for range 3 {
			if got := impl.CacheKey(c.p, c.widths); got != want {
				t.Fatalf("CacheKey(%v) = %q, want %q", c.p, got, want)
			}
			c.p = withConstants(c.p, m.value)
		}
	}
}

func TestP130ACacheKeyIsAPlan(t *testing.T) {
	for _, c := range append(somePlans(t, 130, 300), rewritablePlans(t, 1300, 300)...) {
		key := impl.CacheKey(c.p, c.widths)
		p, ok := impl.DecodePlan(key, c.widths)
		if !ok || !equal(p, withConstants(c.p, zero)) {
			t.Fatalf("DecodePlan(%q) = %v, %v", key, p, ok)
		}
		if again := impl.CacheKey(p, c.widths); again != key {
			t.Fatalf("CacheKey of the plan %q = %q", key, again)
		}
	}
}
