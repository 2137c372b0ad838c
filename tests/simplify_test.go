package tests

import (
	"slices"
	"testing"

	"loop.example/queryoptimizer/impl"
)

func TestP018FoldingKeepsValues(t *testing.T) {
	m := &maker{state: 18}
	for _, c := range someExprs(500, 6) {
		folded := impl.FoldExpr(c.e)
		if !impl.ValidExpr(folded, c.width) || impl.ExprSize(folded) > impl.ExprSize(c.e) {
			t.Fatalf("FoldExpr(%v) = %v", c.e, folded)
		}
		for range 10 {
			r := m.row(c.width)
			if eval(t, folded, r) != eval(t, c.e, r) {
				t.Fatalf("FoldExpr(%v) = %v has another value for %v", c.e, folded, r)
			}
		}
	}
}

func TestP018FoldExpr(t *testing.T) {
	sum := op(impl.Plus, lit(2), lit(3))
	isNull := op(impl.NullTest, val(null))
	for _, c := range []struct {
		e, want impl.Expr
	}{
		{col(3), col(3)}, {lit(7), lit(7)}, {val(null), val(null)}, {sum, lit(5)},
		{op(impl.Times, lit(9999), lit(2)), val(null)}, {op(impl.EqualTo, val(null), lit(1)), val(null)},
		{op(impl.NotExpr, lit(9)), lit(0)}, {isNull, lit(1)}, {op(impl.NullTest, col(0)), op(impl.NullTest, col(0))},
		{op(impl.Plus, col(0), sum), op(impl.Plus, col(0), lit(5))}, {op(impl.Times, col(0), lit(0)), op(impl.Times, col(0), lit(0))},
		{op(impl.AndExpr, lit(0), col(0)), lit(0)}, {op(impl.AndExpr, col(0), lit(0)), lit(0)},
		{op(impl.AndExpr, lit(4), col(0)), op(impl.AndExpr, lit(4), col(0))}, {op(impl.AndExpr, col(0), val(null)), op(impl.AndExpr, col(0), val(null))},
		{op(impl.OrExpr, lit(4), col(0)), lit(1)}, {op(impl.OrExpr, col(0), lit(-1)), lit(1)},
		{op(impl.OrExpr, lit(0), col(0)), op(impl.OrExpr, lit(0), col(0))}, {op(impl.OrExpr, val(null), col(0)), op(impl.OrExpr, val(null), col(0))},
		{op(impl.AndExpr, lit(4), lit(5)), lit(1)}, {op(impl.AndExpr, val(null), lit(5)), val(null)}, {op(impl.OrExpr, val(null), lit(0)), val(null)},
		{op(impl.AndExpr, col(1), op(impl.NotExpr, op(impl.OrExpr, col(0), isNull))), lit(0)},
		{op(impl.Minus, op(impl.AndExpr, col(0), lit(0)), lit(3)), lit(-3)},
	} {
		if got := impl.FoldExpr(c.e); !equal(got, c.want) {
			t.Errorf("FoldExpr(%v) = %v, want %v", c.e, got, c.want)
		}
	}
	for i, e := range invalidExprs() {
		if got := impl.FoldExpr(e); !equal(got, impl.Expr{}) {
			t.Errorf("FoldExpr of the invalid expression %d is not zero", i)
		}
	}
}

func TestP019FoldingIsIdempotent(t *testing.T) {
	for _, c := range someExprs(500, impl.MaxLevels) {
		folded := impl.FoldExpr(c.e)
		if again := impl.FoldExpr(folded); !equal(again, folded) {
			t.Fatalf("FoldExpr(%v) = %v", folded, again)
		}
		var by []impl.Expr
		for i := range c.width {
			by = append(by, lit(i-1))
		}
		constant, ok := impl.Substitute(c.e, by, 1)
		if !ok {
			t.Fatalf("Substitute(%v) fails", c.e)
		}
		if got := impl.FoldExpr(constant); got.Kind != impl.Constant || got.Val != eval(t, constant, row("0")) {
			t.Fatalf("FoldExpr(%v) = %v", constant, got)
		}
	}
	if got := impl.FoldExpr(bush(impl.MaxLevels)); !equal(got, bush(impl.MaxLevels)) {
		t.Errorf("FoldExpr of an expression without constants = %v", got)
	}
}

// allTrue reports whether all of some expressions are true for a row.
func allTrue(t *testing.T, list []impl.Expr, r []impl.Value) bool {
	t.Helper()
	for _, e := range list {
		if !isTrue(t, e, r) {
			return false
		}
	}
	return true
}

func TestP020AnExpressionIsTrueExactlyIfAllItsConjunctsAre(t *testing.T) {
	m := &maker{state: 20}
	for range 300 {
		e := m.expr(3, 4)
		for range m.below(4) {
			e = []impl.Expr{op(impl.AndExpr, e, m.expr(3, 2)), op(impl.AndExpr, m.expr(3, 2), e)}[m.below(2)]
		}
		list := impl.Conjuncts(e)
		for range 10 {
			r := m.row(3)
			if allTrue(t, list, r) != isTrue(t, e, r) {
				t.Fatalf("Conjuncts(%v) = %v for %v", e, list, r)
			}
		}
		for _, part := range list {
			if part.Kind == impl.AndExpr {
				t.Fatalf("Conjuncts(%v) = %v", e, list)
			}
		}
	}
}

func TestP020Conjuncts(t *testing.T) {
	and := func(a impl.Expr, b impl.Expr) impl.Expr { return op(impl.AndExpr, a, b) }
	inner := op(impl.NotExpr, and(col(0), col(1)))
	either := op(impl.OrExpr, and(col(0), col(1)), lit(1))
	for _, c := range []struct {
		e    impl.Expr
		want []impl.Expr
	}{
		{col(0), []impl.Expr{col(0)}}, {lit(1), []impl.Expr{lit(1)}}, {val(null), []impl.Expr{val(null)}},
		{inner, []impl.Expr{inner}}, {either, []impl.Expr{either}}, {and(col(1), col(1)), []impl.Expr{col(1), col(1)}},
		{and(and(col(0), inner), and(lit(0), and(either, col(2)))), []impl.Expr{col(0), inner, lit(0), either, col(2)}},
		{bush(8), slices.Repeat([]impl.Expr{col(0)}, 256)},
	} {
		if got := impl.Conjuncts(c.e); !equal(got, c.want) {
			t.Errorf("Conjuncts(%v) = %v, want %v", c.e, got, c.want)
		}
	}
	for i, e := range invalidExprs() {
		if got := impl.Conjuncts(e); got != nil {
			t.Errorf("Conjuncts of the invalid expression %d is not nil", i)
		}
	}
}

func TestP021ConjoinedExpressionsAreTrueTogether(t *testing.T) {
	m := &maker{state: 21}
	for range 300 {
		var list, parts []impl.Expr
		for range m.below(5) {
			e := m.expr(3, 3)
			list = append(list, e)
			parts = append(parts, impl.Conjuncts(e)...)
		}
		e := impl.Conjoin(list)
		if !impl.ValidExpr(e, 3) {
			t.Fatalf("Conjoin(%v) = %v", list, e)
		}
		if len(list) > 0 && !equal(impl.Conjuncts(e), parts) {
			t.Fatalf("Conjuncts of Conjoin(%v) = %v", list, impl.Conjuncts(e))
		}
		for range 10 {
			r := m.row(3)
			if allTrue(t, list, r) != isTrue(t, e, r) {
				t.Fatalf("Conjoin(%v) for %v", list, r)
			}
		}
	}
}

func TestP021Conjoin(t *testing.T) {
	a, b, c := col(0), op(impl.NotExpr, col(1)), lit(3)
	for _, x := range []struct {
		list []impl.Expr
		want impl.Expr
	}{
		{nil, lit(1)}, {[]impl.Expr{}, lit(1)}, {[]impl.Expr{b}, b}, {[]impl.Expr{val(null)}, val(null)},
		{[]impl.Expr{a, b}, op(impl.AndExpr, a, b)}, {[]impl.Expr{a, b, c}, op(impl.AndExpr, op(impl.AndExpr, a, b), c)},
		{[]impl.Expr{nested(8, a)}, nested(8, a)}, {[]impl.Expr{nested(7, a), nested(7, b.Kids[0])}, op(impl.AndExpr, nested(7, a), nested(7, col(1)))},
	} {
		if got := impl.Conjoin(x.list); !equal(got, x.want) {
			t.Errorf("Conjoin(%v) = %v, want %v", x.list, got, x.want)
		}
	}
	nine := slices.Repeat([]impl.Expr{a}, 9)
	if got := impl.Conjoin(nine); impl.ExprSize(got) != 17 || !equal(impl.Conjuncts(got), nine) {
		t.Errorf("Conjoin of 9 columns = %v", got)
	}
	for i, list := range [][]impl.Expr{
		slices.Repeat([]impl.Expr{a}, 10), slices.Repeat([]impl.Expr{a}, 100000), {nested(8, a), a}, {a, nested(8, a)}, {nested(7, a), a, a},
	} {
		if got := impl.Conjoin(list); !equal(got, impl.Expr{}) {
			t.Errorf("Conjoin of the list %d is not zero", i)
		}
	}
	for i, e := range invalidExprs() {
		for _, list := range [][]impl.Expr{{e}, {a, e}, {e, a}, {a, e, b}} {
			if got := impl.Conjoin(list); !equal(got, impl.Expr{}) {
				t.Errorf("Conjoin with the invalid expression %d is not zero", i)
			}
		}
	}
}

// stateOf returns the state of a value.
func stateOf(v impl.Value) int {
	if v.Null {
		return impl.MayBeNull
	}
	if v.N == 0 {
		return impl.MayBeZero
	}
	return impl.MayBeOther
}

// samples returns values with all of some states.
func samples(states int) []impl.Value {
	var list []impl.Value
	for _, v := range row("0 1 -3 9999 null") {
		if states&stateOf(v) != 0 {
			list = append(list, v)
		}
	}
	return list
}

// reached returns the states of the values of an expression for samples of the states of two columns.
func reached(t *testing.T, e impl.Expr, first int, second int) int {
	t.Helper()
	result := 0
	for _, a := range samples(first) {
		for _, b := range samples(second) {
			result |= stateOf(eval(t, e, []impl.Value{a, b}))
		}
	}
	return result
}

func TestP022OutcomesAreSound(t *testing.T) {
	m := &maker{state: 22}
	for range 300 {
		e := m.expr(2, 5)
		for first := 1; first <= 7; first++ {
			for second := 1; second <= 7; second++ {
				got := impl.Outcomes(e, []int{first, second})
				if got < 1 || got > 7 || reached(t, e, first, second)&^got != 0 {
					t.Fatalf("Outcomes(%v, {%d, %d}) = %d", e, first, second, got)
				}
			}
		}
	}
}

func TestP022OutcomesOfLogicAreExact(t *testing.T) {
	for _, e := range []impl.Expr{
		col(0), col(1), op(impl.NotExpr, col(0)), op(impl.NullTest, col(0)), op(impl.AndExpr, col(0), col(1)), op(impl.OrExpr, col(0), col(1)),
		op(impl.AndExpr, op(impl.NullTest, col(0)), op(impl.NotExpr, col(1))), lit(0), lit(-2), val(null),
	} {
		for first := 1; first <= 7; first++ {
			for second := 1; second <= 7; second++ {
				if got, want := impl.Outcomes(e, []int{first, second}), reached(t, e, first, second); got != want {
					t.Errorf("Outcomes(%v, {%d, %d}) = %d, want %d", e, first, second, got, want)
				}
			}
		}
	}
}

func TestP022OutcomesOfNumbers(t *testing.T) {
	const number = impl.MayBeZero | impl.MayBeOther
	for first := 1; first <= 7; first++ {
		for second := 1; second <= 7; second++ {
			comparison := (first | second) & impl.MayBeNull
			arithmetic := comparison
			if first&number != 0 && second&number != 0 {
				comparison |= number
				arithmetic = 7
			}
			for kind, want := range map[int]int{
				impl.EqualTo: comparison, impl.LessThan: comparison, impl.Plus: arithmetic, impl.Minus: arithmetic, impl.Times: arithmetic,
			} {
				if got := impl.Outcomes(op(kind, col(0), col(1)), []int{first, second}); got != want {
					t.Errorf("Outcomes of the kind %d for %d and %d = %d, want %d", kind, first, second, got, want)
				}
			}
		}
	}
}

func TestP022InvalidOutcomes(t *testing.T) {
	six := []int{7, 7, 7, 7, 7, 7}
	for i, e := range invalidExprs() {
		if got := impl.Outcomes(e, six); got != 0 {
			t.Errorf("Outcomes of the invalid expression %d = %d", i, got)
		}
	}
	for _, states := range [][]int{nil, {}, {0}, {8}, {-1}, {7, 0}, {7, 8}, {1, 2, -4}, append(six, 7)} {
		if got := impl.Outcomes(lit(1), states); got != 0 {
			t.Errorf("Outcomes for the states %v = %d", states, got)
		}
	}
	if got := impl.Outcomes(col(5), six); got != 7 {
		t.Errorf("Outcomes of the last column = %d", got)
	}
	if got := impl.Outcomes(col(2), six[:2]); got != 0 {
		t.Errorf("Outcomes of a column without states = %d", got)
	}
}

func TestP023MoreStatesHaveMoreOutcomes(t *testing.T) {
	m := &maker{state: 23}
	for range 300 {
		e := m.expr(2, 5)
		for first := 1; first <= 7; first++ {
			for second := 1; second <= 7; second++ {
				fewer := impl.Outcomes(e, []int{first, second})
				for more := 1; more <= 7; more++ {
					if fewer&^impl.Outcomes(e, []int{first | more, second}) != 0 || fewer&^impl.Outcomes(e, []int{first, second | more}) != 0 {
						t.Fatalf("Outcomes(%v, {%d, %d}) = %d, but not with the states %d", e, first, second, fewer, more)
					}
				}
			}
		}
	}
}

// subset returns the columns of a set of bits.
func subset(bits int) []int {
	var list []int
	for c := range impl.MaxWidth {
		if bits>>c&1 == 1 {
			list = append(list, c)
		}
	}
	return list
}

func TestP024RejectedNullsAreNeverTrue(t *testing.T) {
	m := &maker{state: 24}
	rejected := 0
	for _, c := range someExprs(400, 4) {
		nulls := subset(m.below(1 << c.width))
		if !impl.RejectsNulls(c.e, c.width, nulls) {
			continue
		}
		rejected++
		for range 20 {
			r := m.row(c.width)
			for _, i := range nulls {
				r[i] = null
			}
			if isTrue(t, c.e, r) {
				t.Fatalf("RejectsNulls(%v, %d, %v), but it is true for %v", c.e, c.width, nulls, r)
			}
		}
	}
	if rejected < 20 {
		t.Errorf("only %d expressions reject nulls", rejected)
	}
}

func TestP024RejectsNulls(t *testing.T) {
	less := op(impl.LessThan, col(0), col(1))
	for _, c := range []struct {
		e     impl.Expr
		width int
		nulls []int
		want  bool
	}{
		{less, 2, nil, false}, {less, 2, []int{}, false}, {less, 2, []int{0}, true}, {less, 2, []int{1}, true}, {less, 3, []int{2}, false},
		{less, 2, []int{1, 0, 1}, true}, {col(0), 1, []int{0}, true}, {op(impl.NotExpr, col(0)), 1, []int{0}, true},
		{op(impl.NullTest, col(0)), 1, []int{0}, false}, {op(impl.NotExpr, op(impl.NullTest, col(0))), 1, []int{0}, true},
		{op(impl.NotExpr, op(impl.NullTest, col(0))), 2, []int{1}, false},
		{op(impl.OrExpr, less, col(2)), 3, []int{0}, false}, {op(impl.OrExpr, less, col(2)), 3, []int{0, 2}, true},
		{op(impl.AndExpr, less, col(2)), 3, []int{2}, true}, {lit(0), 1, nil, true}, {val(null), 1, nil, true}, {lit(3), 1, []int{0}, false},
		{op(impl.EqualTo, op(impl.Plus, col(5), lit(1)), lit(2)), 6, []int{5}, true},
		{less, 1, []int{0}, false}, {less, 0, []int{0}, false}, {less, 7, []int{0}, false}, {lit(0), 0, nil, false}, {lit(0), 7, nil, false}, {lit(0), -1, nil, false},
	} {
		if got := impl.RejectsNulls(c.e, c.width, c.nulls); got != c.want {
			t.Errorf("RejectsNulls(%v, %d, %v) = %v", c.e, c.width, c.nulls, got)
		}
	}
	for i, e := range invalidExprs() {
		both := op(impl.AndExpr, lit(0), e)
		if impl.RejectsNulls(e, 6, subset(63)) || impl.RejectsNulls(both, 6, subset(63)) {
			t.Errorf("RejectsNulls of the invalid expression %d is true", i)
		}
	}
}

func TestP025MoreNullsAreRejectedAsWell(t *testing.T) {
	for _, c := range someExprs(300, 4) {
		for bits := range 1 << c.width {
			if !impl.RejectsNulls(c.e, c.width, subset(bits)) {
				continue
			}
			for further := range c.width {
				nulls := append(subset(bits), further)
				if !impl.RejectsNulls(c.e, c.width, nulls) {
					t.Fatalf("RejectsNulls(%v, %d, %v) is false", c.e, c.width, nulls)
				}
			}
		}
	}
}

func TestP025OtherNumbersAreNoColumns(t *testing.T) {
	less := op(impl.LessThan, col(0), lit(3))
	if impl.RejectsNulls(less, 1, []int{-1, 1, 6}) {
		t.Error("RejectsNulls of numbers that are no columns is true")
	}
	if !impl.RejectsNulls(less, 1, []int{-1, 0, 6}) {
		t.Error("RejectsNulls with further numbers that are no columns is false")
	}
}
