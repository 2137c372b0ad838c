package tests

import (
	"reflect"
	"strconv"
	"strings"
	"testing"

	"loop.example/queryoptimizer/impl"
)

// null is the null value.
var null = impl.Value{Null: true}

// num returns a number.
func num(n int) impl.Value {
	return impl.Value{N: n}
}

// col returns a column.
func col(n int) impl.Expr {
	return impl.Expr{Kind: impl.Column, Col: n}
}

// val returns a constant.
func val(v impl.Value) impl.Expr {
	return impl.Expr{Kind: impl.Constant, Val: v}
}

// lit returns a constant number.
func lit(n int) impl.Expr {
	return val(num(n))
}

// op returns an expression with some kids.
func op(kind int, kids ...impl.Expr) impl.Expr {
	return impl.Expr{Kind: kind, Kids: kids}
}

// row returns the values that are written in a string, separated by spaces.
func row(s string) []impl.Value {
	var values []impl.Value
	for _, word := range strings.Fields(s) {
		if word == "null" {
			values = append(values, null)
			continue
		}
		n, err := strconv.Atoi(word)
		if err != nil {
			panic(err)
		}
		values = append(values, num(n))
	}
	return values
}

// rows returns the rows that are written in strings.
func rows(list ...string) [][]impl.Value {
	var result [][]impl.Value
	for _, s := range list {
		result = append(result, row(s))
	}
	return result
}

// table returns the table with the rows that are written in strings.
func table(t *testing.T, width int, list ...string) impl.Table {
	t.Helper()
	return tableOf(t, width, rows(list...))
}

// tableOf returns the table with some rows, and fails if there is none.
func tableOf(t *testing.T, width int, list [][]impl.Value) impl.Table {
	t.Helper()
	x, ok := impl.TableOf(width, list)
	if !ok {
		t.Fatalf("TableOf(%d, %v) fails", width, list)
	}
	return x
}

// numbered returns the rows of width 1 with the numbers from low on, each once.
func numbered(low int, count int) [][]impl.Value {
	var result [][]impl.Value
	for i := range count {
		result = append(result, []impl.Value{num(low + i)})
	}
	return result
}

// nested returns an expression with a number of levels of kids above a leaf.
func nested(levels int, leaf impl.Expr) impl.Expr {
	for range levels {
		leaf = op(impl.NotExpr, leaf)
	}
	return leaf
}

// eval returns the value of an expression for a row, and fails if there is none.
func eval(t *testing.T, e impl.Expr, r []impl.Value) impl.Value {
	t.Helper()
	v, ok := impl.EvalExpr(e, r)
	if !ok {
		t.Fatalf("EvalExpr(%v, %v) fails", e, r)
	}
	return v
}

// isTrue reports whether the truth of an expression for a row is true.
func isTrue(t *testing.T, e impl.Expr, r []impl.Value) bool {
	t.Helper()
	v := eval(t, e, r)
	return !v.Null && v.N != 0
}

// equal reports whether two values are the same, where a nil slice is an empty slice.
func equal(a any, b any) bool {
	return equalValues(reflect.ValueOf(a), reflect.ValueOf(b))
}

func equalValues(a reflect.Value, b reflect.Value) bool {
	if a.Type() != b.Type() {
		return false
	}
	switch a.Kind() {
	case reflect.Slice:
		if a.Len() != b.Len() {
			return false
		}
		for i := range a.Len() {
			if !equalValues(a.Index(i), b.Index(i)) {
				return false
			}
		}
		return true
	case reflect.Struct:
		for i := range a.NumField() {
			if !equalValues(a.Field(i), b.Field(i)) {
				return false
			}
		}
		return true
	case reflect.Interface:
		return equalValues(a.Elem(), b.Elem())
	}
	return a.Interface() == b.Interface()
}

// maker makes arguments that look random and are the same in each run.
type maker struct {
	state uint64
}

// below returns a number from 0 on that is less than n.
func (m *maker) below(n int) int {
	m.state = m.state*6364136223846793005 + 1442695040888963407
	return int(m.state>>33) % n
}

// value returns null, a small number, or one at a limit.
func (m *maker) value() impl.Value {
	switch m.below(8) {
	case 0, 1:
		return null
	case 2:
		return num([]int{9999, -9999, 5000, -5000}[m.below(4)])
	}
	return num(m.below(5) - 2)
}

// row returns a row.
func (m *maker) row(width int) []impl.Value {
	var r []impl.Value
	for range width {
		r = append(r, m.value())
	}
	return r
}

// rows returns some rows, many of which are equal.
func (m *maker) rows(width int, count int) [][]impl.Value {
	var list [][]impl.Value
	for range count {
		if len(list) > 0 && m.below(3) == 0 {
			list = append(list, append([]impl.Value(nil), list[m.below(len(list))]...))
		} else {
			list = append(list, m.row(width))
		}
	}
	return list
}

// expr returns an expression with at most a number of levels of kids.
func (m *maker) expr(width int, levels int) impl.Expr {
	if levels == 0 || m.below(6) == 0 {
		if m.below(3) > 0 {
			return col(m.below(width))
		}
		return val(m.value())
	}
	kind := impl.Plus + m.below(impl.NullTest-impl.Plus+1)
	if kind == impl.NotExpr || kind == impl.NullTest {
		return op(kind, m.expr(width, levels-1))
	}
	return op(kind, m.expr(width, levels-1), m.expr(width, levels-1))
}

// invalidExprs returns expressions that are valid for no width.
func invalidExprs() []impl.Expr {
	pair := []impl.Expr{col(0), col(0)}
	list := []impl.Expr{
		{},
		{Kind: -1},
		{Kind: 12, Kids: pair},
		{Kind: impl.Column, Col: -1},
		{Kind: impl.Column, Col: 6},
		{Kind: impl.Column, Val: num(1)},
		{Kind: impl.Column, Val: null},
		{Kind: impl.Column, Kids: pair[:1]},
		{Kind: impl.Constant, Col: 1},
		{Kind: impl.Constant, Val: num(10000)},
		{Kind: impl.Constant, Val: num(-10000)},
		{Kind: impl.Constant, Val: impl.Value{Null: true, N: 1}},
		{Kind: impl.Constant, Kids: pair[:1]},
	}
	for kind := impl.Plus; kind <= impl.NullTest; kind++ {
		n := 2
		if kind == impl.NotExpr || kind == impl.NullTest {
			n = 1
		}
		list = append(list,
			impl.Expr{Kind: kind},
			impl.Expr{Kind: kind, Kids: pair[:3-n]},
			impl.Expr{Kind: kind, Kids: []impl.Expr{col(0), col(0), col(0)}},
			impl.Expr{Kind: kind, Col: 1, Kids: pair[:n]},
			impl.Expr{Kind: kind, Val: num(1), Kids: pair[:n]},
			impl.Expr{Kind: kind, Val: null, Kids: pair[:n]},
			impl.Expr{Kind: kind, Kids: []impl.Expr{{}, col(0)}[:n]},
			impl.Expr{Kind: kind, Kids: []impl.Expr{col(0), lit(10000)}[2-n:]},
		)
	}
	return append(list, nested(impl.MaxLevels+1, col(0)), nested(impl.MaxLevels+1, lit(1)), bush(100))
}

// bush returns an expression with a number of levels of kids, in which both kids of each part share their memory.
func bush(levels int) impl.Expr {
	e := col(0)
	for range levels {
		e = op(impl.AndExpr, e, e)
	}
	return e
}
