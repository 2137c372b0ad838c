package tests

import (
	"slices"
	"testing"

	"loop.example/queryoptimizer/impl"
)

// pairKinds are the kinds of expressions with two kids.
var pairKinds = []int{impl.Plus, impl.Minus, impl.Times, impl.EqualTo, impl.LessThan, impl.AndExpr, impl.OrExpr}

// someExpr is an expression with the width of the rows from which it is computed.
type someExpr struct {
	width int
	e     impl.Expr
}

// someExprs returns expressions of all widths.
func someExprs(count int, levels int) []someExpr {
	m := &maker{state: uint64(count + levels)}
	var list []someExpr
	for i := range count {
		width := 1 + i%impl.MaxWidth
		list = append(list, someExpr{width, m.expr(width, m.below(levels+1))})
	}
	return list
}

func TestValidExpr(t *testing.T) {
	for width := 1; width <= impl.MaxWidth; width++ {
		if !impl.ValidExpr(col(width-1), width) || impl.ValidExpr(col(width), width) {
			t.Errorf("ValidExpr of the last column of the width %d and the next one", width)
		}
	}
	valid := []impl.Expr{
		lit(0), lit(9999), lit(-9999), val(null), nested(impl.MaxLevels, col(0)), nested(impl.MaxLevels, val(null)), bush(impl.MaxLevels),
		{Kind: impl.Constant, Kids: []impl.Expr{}}, op(impl.NotExpr, lit(3)), op(impl.NullTest, col(0)),
	}
	for _, kind := range pairKinds {
		valid = append(valid, op(kind, col(0), lit(1)))
	}
	for _, e := range valid {
		if !impl.ValidExpr(e, 1) || !impl.ValidExpr(e, 6) {
			t.Errorf("ValidExpr(%v) is false", e)
		}
		for _, width := range []int{-1, 0, 7} {
			if impl.ValidExpr(e, width) {
				t.Errorf("ValidExpr(%v, %d) is true", e, width)
			}
		}
	}
	for i, e := range invalidExprs() {
		for width := 1; width <= impl.MaxWidth; width++ {
			if impl.ValidExpr(e, width) {
				t.Errorf("ValidExpr of the invalid expression %d is true for the width %d", i, width)
			}
		}
	}
}

func TestValidExprChecksEachKid(t *testing.T) {
	for _, kind := range pairKinds {
		for _, bad := range []impl.Expr{{}, col(2), lit(10000), nested(impl.MaxLevels, col(0))} {
			if impl.ValidExpr(op(kind, col(1), bad), 2) || impl.ValidExpr(op(kind, bad, col(1)), 2) {
				t.Errorf("ValidExpr accepts the kind %d with the kid %v", kind, bad)
			}
		}
	}
}

func TestP009EvalExpr(t *testing.T) {
	r := row("3 null -4 0")
	for _, c := range []struct {
		e    impl.Expr
		want string
	}{
		{col(0), "3"}, {col(1), "null"}, {col(3), "0"}, {lit(-9999), "-9999"}, {val(null), "null"},
		{op(impl.Plus, col(0), col(2)), "-1"}, {op(impl.Minus, col(0), col(2)), "7"}, {op(impl.Times, col(0), col(2)), "-12"},
		{op(impl.Minus, col(2), col(0)), "-7"},
		{op(impl.Plus, lit(9998), lit(1)), "9999"}, {op(impl.Plus, lit(9999), lit(1)), "null"},
		{op(impl.Plus, lit(-9998), lit(-1)), "-9999"}, {op(impl.Plus, lit(-9999), lit(-1)), "null"},
		{op(impl.Minus, lit(-9998), lit(1)), "-9999"}, {op(impl.Minus, lit(-9999), lit(1)), "null"}, {op(impl.Minus, lit(9999), lit(-1)), "null"},
		{op(impl.Times, lit(99), lit(101)), "9999"}, {op(impl.Times, lit(100), lit(100)), "null"}, {op(impl.Times, lit(-100), lit(100)), "null"},
		{op(impl.Times, lit(9999), lit(-9999)), "null"}, {op(impl.Times, lit(0), lit(9999)), "0"},
		{op(impl.EqualTo, col(0), lit(3)), "1"}, {op(impl.EqualTo, col(0), col(2)), "0"},
		{op(impl.LessThan, col(2), col(0)), "1"}, {op(impl.LessThan, col(0), col(2)), "0"}, {op(impl.LessThan, col(0), col(0)), "0"},
		{op(impl.NotExpr, col(0)), "0"}, {op(impl.NotExpr, col(2)), "0"}, {op(impl.NotExpr, col(3)), "1"}, {op(impl.NotExpr, col(1)), "null"},
		{op(impl.Minus, op(impl.Plus, lit(9999), lit(1)), lit(1)), "null"},
	} {
		if got := eval(t, c.e, r); got != row(c.want)[0] {
			t.Errorf("EvalExpr(%v) = %v, want %s", c.e, got, c.want)
		}
	}
}

func TestP009ValuesOfExpressionsAreValid(t *testing.T) {
	m := &maker{state: 9}
	for _, c := range someExprs(400, 6) {
		for range 10 {
			r := m.row(c.width)
			if v := eval(t, c.e, r); !impl.ValidValue(v) {
				t.Fatalf("EvalExpr(%v, %v) = %v", c.e, r, v)
			}
			for i := range r {
				if eval(t, col(i), r) != r[i] {
					t.Fatalf("EvalExpr of the column %d of %v", i, r)
				}
			}
		}
	}
}

func TestP009InvalidExpressionsHaveNoValue(t *testing.T) {
	for i, e := range invalidExprs() {
		if v, ok := impl.EvalExpr(e, row("1 2 3 4 5 6")); ok || v != (impl.Value{}) {
			t.Errorf("EvalExpr of the invalid expression %d = %v, %v", i, v, ok)
		}
	}
	for _, r := range [][]impl.Value{nil, {}, row("1 2 3 4 5 6 7"), row("1 10000"), {num(1), {Null: true, N: 1}}} {
		if v, ok := impl.EvalExpr(lit(1), r); ok || v != (impl.Value{}) {
			t.Errorf("EvalExpr for the row %v = %v, %v", r, v, ok)
		}
	}
	if v, ok := impl.EvalExpr(op(impl.OrExpr, lit(1), col(2)), row("1 2")); ok || v != (impl.Value{}) {
		t.Errorf("EvalExpr of a column that the row does not have = %v, %v", v, ok)
	}
}

func TestP010CommutativeExpressions(t *testing.T) {
	m := &maker{state: 10}
	for _, kind := range []int{impl.Plus, impl.Times, impl.EqualTo, impl.AndExpr, impl.OrExpr} {
		for _, a := range orderedValues {
			for _, b := range orderedValues {
				r := []impl.Value{a, b}
				if eval(t, op(kind, col(0), col(1)), r) != eval(t, op(kind, col(1), col(0)), r) {
					t.Errorf("the kind %d is not commutative for %v", kind, r)
				}
			}
		}
		for range 100 {
			a, b, r := m.expr(3, 4), m.expr(3, 4), m.row(3)
			if eval(t, op(kind, a, b), r) != eval(t, op(kind, b, a), r) {
				t.Errorf("the kind %d is not commutative for %v and %v", kind, a, b)
			}
		}
	}
}

func TestP011ArithmeticAndComparisonsWithNullAreNull(t *testing.T) {
	outOfRange := op(impl.Times, lit(9999), lit(9999))
	for _, kind := range []int{impl.Plus, impl.Minus, impl.Times, impl.EqualTo, impl.LessThan} {
		for _, v := range orderedValues {
			for _, e := range []impl.Expr{
				op(kind, val(v), val(null)), op(kind, val(null), val(v)), op(kind, val(v), outOfRange), op(kind, outOfRange, val(v)),
			} {
				if got := eval(t, e, row("0")); got != null {
					t.Errorf("EvalExpr(%v) = %v", e, got)
				}
			}
			if !v.Null && kind != impl.Times && kind != impl.Plus && kind != impl.Minus && eval(t, op(kind, val(v), val(v)), row("0")).Null {
				t.Errorf("a comparison of %v with itself is null", v)
			}
		}
	}
}

func TestP012TruthTables(t *testing.T) {
	truths := []impl.Expr{lit(0), val(null), lit(1)}
	names := row("0 null 1")
	for i, a := range truths {
		for k, b := range truths {
			if got := eval(t, op(impl.AndExpr, a, b), row("0")); got != names[min(i, k)] {
				t.Errorf("%v and %v = %v", names[i], names[k], got)
			}
			if got := eval(t, op(impl.OrExpr, a, b), row("0")); got != names[max(i, k)] {
				t.Errorf("%v or %v = %v", names[i], names[k], got)
			}
		}
		if got := eval(t, op(impl.NotExpr, a), row("0")); got != names[2-i] {
			t.Errorf("not %v = %v", names[i], got)
		}
	}
	for _, kind := range []int{impl.AndExpr, impl.OrExpr} {
		if got := eval(t, op(kind, lit(-7), lit(9999)), row("0")); got != num(1) {
			t.Errorf("the kind %d of two true numbers = %v", kind, got)
		}
	}
}

func TestP012NegationExchangesConjunctionAndDisjunction(t *testing.T) {
	not := func(e impl.Expr) impl.Expr { return op(impl.NotExpr, e) }
	for _, a := range orderedValues {
		for _, b := range orderedValues {
			r := []impl.Value{a, b}
			and, or := op(impl.AndExpr, col(0), col(1)), op(impl.OrExpr, col(0), col(1))
			if eval(t, not(and), r) != eval(t, op(impl.OrExpr, not(col(0)), not(col(1))), r) {
				t.Errorf("the negation of AndExpr for %v", r)
			}
			if eval(t, not(or), r) != eval(t, op(impl.AndExpr, not(col(0)), not(col(1))), r) {
				t.Errorf("the negation of OrExpr for %v", r)
			}
		}
	}
}

func TestP013NullTestsAreNeverNull(t *testing.T) {
	m := &maker{state: 13}
	for _, c := range someExprs(300, 5) {
		r := m.row(c.width)
		want := num(0)
		if eval(t, c.e, r).Null {
			want = num(1)
		}
		if got := eval(t, op(impl.NullTest, c.e), r); got != want {
			t.Fatalf("the null test of %v for %v = %v", c.e, r, got)
		}
	}
	for s, want := range map[string]int{"null": 1, "0": 0, "1": 0, "-9999": 0} {
		if got := eval(t, op(impl.NullTest, col(0)), row(s)); got != num(want) {
			t.Errorf("the null test of %s = %v", s, got)
		}
	}
}

func TestP014OnlyTheListedColumnsMatter(t *testing.T) {
	m := &maker{state: 14}
	for _, c := range someExprs(400, 5) {
		columns := impl.ColumnsOf(c.e)
		for range 10 {
			a, b := m.row(c.width), m.row(c.width)
			for _, i := range columns {
				b[i] = a[i]
			}
			if eval(t, c.e, a) != eval(t, c.e, b) {
				t.Fatalf("EvalExpr(%v) is different for %v and %v", c.e, a, b)
			}
		}
	}
}

func TestP014ColumnsOf(t *testing.T) {
	for _, c := range []struct {
		e    impl.Expr
		want []int
	}{
		{lit(1), nil}, {val(null), nil}, {col(5), []int{5}}, {op(impl.Plus, lit(1), lit(2)), nil},
		{op(impl.Plus, col(4), col(0)), []int{0, 4}}, {op(impl.Minus, col(2), col(2)), []int{2}},
		{op(impl.AndExpr, op(impl.NullTest, col(5)), op(impl.OrExpr, op(impl.Times, col(3), col(5)), op(impl.NotExpr, col(1)))), []int{1, 3, 5}},
		{nested(impl.MaxLevels, col(1)), []int{1}},
	} {
		if got := impl.ColumnsOf(c.e); !slices.Equal(got, c.want) {
			t.Errorf("ColumnsOf(%v) = %v, want %v", c.e, got, c.want)
		}
	}
	for i, e := range invalidExprs() {
		if got := impl.ColumnsOf(e); got != nil {
			t.Errorf("ColumnsOf of the invalid expression %d = %v", i, got)
		}
	}
}

func TestP015SubstitutionCommutesWithEvaluation(t *testing.T) {
	m := &maker{state: 15}
	for _, c := range someExprs(300, 5) {
		width := 1 + m.below(impl.MaxWidth)
		var by []impl.Expr
		for range c.width {
			by = append(by, m.expr(width, 3))
		}
		e, ok := impl.Substitute(c.e, by, width)
		if !ok || !impl.ValidExpr(e, width) {
			t.Fatalf("Substitute(%v, %v, %d) = %v, %v", c.e, by, width, e, ok)
		}
		for range 5 {
			r := m.row(width)
			var values []impl.Value
			for _, part := range by {
				values = append(values, eval(t, part, r))
			}
			if eval(t, e, r) != eval(t, c.e, values) {
				t.Fatalf("Substitute(%v, %v, %d) = %v", c.e, by, width, e)
			}
		}
	}
}

func TestP015Substitute(t *testing.T) {
	e := op(impl.Minus, col(1), op(impl.Plus, col(0), op(impl.Times, col(1), lit(7))))
	by := []impl.Expr{lit(5), op(impl.NotExpr, col(3))}
	want := op(impl.Minus, by[1], op(impl.Plus, by[0], op(impl.Times, by[1], lit(7))))
	if got, ok := impl.Substitute(e, by, 4); !ok || !equal(got, want) {
		t.Errorf("Substitute = %v, %v, want %v", got, ok, want)
	}
	four := nested(4, col(0))
	if got, ok := impl.Substitute(four, []impl.Expr{four}, 1); !ok || !equal(got, nested(8, col(0))) {
		t.Errorf("Substitute with 8 levels = %v, %v", got, ok)
	}
	swapped := []impl.Expr{col(1), col(0)}
	if got, ok := impl.Substitute(op(impl.Plus, col(0), col(1)), swapped, 2); !ok || !equal(got, op(impl.Plus, col(1), col(0))) {
		t.Errorf("Substitute of exchanged columns = %v, %v", got, ok)
	}
}

func TestP015SubstituteFails(t *testing.T) {
	two := []impl.Expr{col(0), lit(1)}
	for i, c := range []struct {
		e     impl.Expr
		by    []impl.Expr
		width int
	}{
		{lit(1), nil, 1}, {col(0), nil, 1}, {col(2), two, 6}, {col(0), two, 0}, {col(0), two, 7}, {col(0), two, -1},
		{lit(1), two, 0}, {col(0), slices.Repeat(two, 4), 2}, {lit(1), slices.Repeat(two, 4), 2},
		{col(0), []impl.Expr{col(1)}, 1}, {lit(1), []impl.Expr{col(1)}, 1}, {col(0), []impl.Expr{col(0), col(1)}, 1},
		{nested(4, col(0)), []impl.Expr{nested(5, col(0))}, 1}, {nested(8, col(0)), []impl.Expr{nested(1, lit(1))}, 1},
		{bush(8), []impl.Expr{bush(8)}, 1},
	} {
		if got, ok := impl.Substitute(c.e, c.by, c.width); ok || !equal(got, impl.Expr{}) {
			t.Errorf("Substitute of the case %d succeeds", i)
		}
	}
	six := []impl.Expr{col(0), col(1), col(2), col(3), col(4), col(5)}
	for i, e := range invalidExprs() {
		if got, ok := impl.Substitute(e, six, 6); ok || !equal(got, impl.Expr{}) {
			t.Errorf("Substitute of the invalid expression %d succeeds", i)
		}
		if got, ok := impl.Substitute(col(0), []impl.Expr{e}, 6); ok || !equal(got, impl.Expr{}) {
			t.Errorf("Substitute by the invalid expression %d succeeds", i)
		}
		if got, ok := impl.Substitute(col(0), []impl.Expr{col(0), e}, 6); ok || !equal(got, impl.Expr{}) {
			t.Errorf("Substitute with the unused invalid expression %d succeeds", i)
		}
	}
}

func TestP016SubstitutingColumnsByThemselvesChangesNothing(t *testing.T) {
	for _, c := range someExprs(200, impl.MaxLevels) {
		var by []impl.Expr
		for i := range c.width {
			by = append(by, col(i))
		}
		if got, ok := impl.Substitute(c.e, by, c.width); !ok || !equal(got, c.e) {
			t.Fatalf("Substitute of %v by its columns = %v, %v", c.e, got, ok)
		}
	}
}

func TestP017SizesAddUp(t *testing.T) {
	for _, c := range someExprs(200, impl.MaxLevels) {
		want := 1
		for _, kid := range c.e.Kids {
			want += impl.ExprSize(kid)
		}
		if got := impl.ExprSize(c.e); got != want || len(impl.ColumnsOf(c.e)) > got {
			t.Fatalf("ExprSize(%v) = %d, want %d", c.e, got, want)
		}
	}
	for want, e := range map[int]impl.Expr{1: col(5), 2: op(impl.NotExpr, lit(1)), 3: op(impl.Plus, col(0), col(0)), 9: nested(8, lit(1)), 511: bush(8)} {
		if got := impl.ExprSize(e); got != want {
			t.Errorf("ExprSize = %d, want %d", got, want)
		}
	}
	for i, e := range invalidExprs() {
		if got := impl.ExprSize(e); got != 0 {
			t.Errorf("ExprSize of the invalid expression %d = %d", i, got)
		}
	}
}

func TestP140NumbersAreTotallyOrderedByLessThan(t *testing.T) {
	check := func(a impl.Expr, b impl.Expr, r []impl.Value) {
		t.Helper()
		if eval(t, a, r).Null || eval(t, b, r).Null {
			return
		}
		sum := 0
		for _, e := range []impl.Expr{op(impl.LessThan, a, b), op(impl.EqualTo, a, b), op(impl.LessThan, b, a)} {
			v := eval(t, e, r)
			if v != num(0) && v != num(1) {
				t.Errorf("EvalExpr(%v, %v) = %v", e, r, v)
			}
			sum += v.N
		}
		if sum != 1 {
			t.Errorf("%d of less, equal and greater are true for %v and %v", sum, a, b)
		}
	}
	for i, a := range orderedValues {
		for k, b := range orderedValues {
			check(val(a), val(b), row("0"))
			if i > 0 && k > 0 && isTrue(t, op(impl.LessThan, val(a), val(b)), row("0")) != (i < k) {
				t.Errorf("LessThan of %v and %v", a, b)
			}
		}
	}
	m := &maker{state: 140}
	for range 500 {
		check(m.expr(3, 4), m.expr(3, 4), m.row(3))
	}
}

func TestP146MinusInvertsPlus(t *testing.T) {
	check := func(a impl.Expr, b impl.Expr, r []impl.Value) {
		t.Helper()
		sum := op(impl.Plus, a, b)
		if eval(t, sum, r).Null {
			return
		}
		if got := eval(t, op(impl.Minus, sum, b), r); got != eval(t, a, r) {
			t.Errorf("the sum of %v and %v minus the second one = %v", a, b, got)
		}
	}
	known := 0
	for _, a := range orderedValues {
		for _, b := range orderedValues {
			check(val(a), val(b), row("0"))
			sum := eval(t, op(impl.Plus, val(a), val(b)), row("0"))
			if inRange := !a.Null && !b.Null && a.N+b.N <= 9999 && a.N+b.N >= -9999; sum.Null == inRange {
				t.Errorf("the sum of %v and %v = %v", a, b, sum)
			} else if inRange {
				known++
			}
		}
	}
	if known == 0 {
		t.Error("no sum is in range")
	}
	m := &maker{state: 146}
	for range 500 {
		check(m.expr(3, 4), m.expr(3, 4), m.row(3))
	}
}
