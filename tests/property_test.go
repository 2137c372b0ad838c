package tests

import (
	"slices"
	"testing"

	"loop.example/queryoptimizer/impl"
)

// flagsOf returns for each column of each table whether it has a null.
func flagsOf(db []impl.Table) [][]bool {
	var flags [][]bool
	for _, x := range db {
		flags = append(flags, nullsIn(x.Rows, x.Width))
	}
	return flags
}

// nullsIn returns for each column of some rows whether it has a null.
func nullsIn(list [][]impl.Value, width int) []bool {
	flags := make([]bool, width)
	for _, r := range list {
		for i, v := range r {
			flags[i] = flags[i] || v.Null
		}
	}
	return flags
}

// setsOf returns for each table whether no row occurs in it twice.
func setsOf(db []impl.Table) []bool {
	var sets []bool
	for _, x := range db {
		sets = append(sets, isSet(x.Rows))
	}
	return sets
}

// isSet reports whether no row occurs twice.
func isSet(list [][]impl.Value) bool {
	for i, r := range list {
		if countOf(list[:i], r) > 0 {
			return false
		}
	}
	return true
}

// bools returns the flags that are written in a string of 0 and 1.
func bools(s string) []bool {
	var flags []bool
	for _, c := range s {
		flags = append(flags, c == '1')
	}
	return flags
}

func TestNullableColumns(t *testing.T) {
	widths := []int{2, 1, 1}
	flags := [][]bool{bools("01"), bools("1"), bools("0")}
	both := join(lit(1), scan(1), scan(1))
	isNull := func(n int) impl.Expr { return op(impl.NullTest, col(n)) }
	for _, c := range []struct {
		p    impl.Plan
		want string
	}{
		{scan(0), "01"}, {scan(1), "1"}, {scan(2), "0"},
		{filter(col(1), scan(0)), "00"}, {filter(col(0), scan(0)), "01"}, {filter(isNull(1), scan(0)), "01"}, {filter(isNull(0), scan(0)), "00"},
		{filter(equals(0, 1), scan(0)), "00"}, {filter(lit(1), scan(0)), "01"}, {filter(lit(0), scan(0)), "00"}, {filter(val(null), scan(0)), "00"},
		{filter(op(impl.OrExpr, col(0), col(1)), scan(0)), "01"}, {filter(op(impl.AndExpr, col(0), col(1)), scan(0)), "00"},
		{filter(op(impl.OrExpr, isNull(0), col(1)), scan(0)), "00"}, {filter(op(impl.OrExpr, op(impl.NotExpr, isNull(0)), col(1)), scan(0)), "01"},
		{both, "11"}, {filter(op(impl.OrExpr, col(0), isNull(1)), both), "11"}, {filter(op(impl.OrExpr, col(1), isNull(0)), both), "11"},
		{filter(op(impl.OrExpr, col(0), op(impl.NotExpr, isNull(1))), both), "11"}, {filter(op(impl.NotExpr, isNull(1)), both), "10"}, {filter(op(impl.AndExpr, isNull(1), col(0)), both), "01"},
		{filter(equals(0, 1), both), "00"}, {filter(col(1), both), "10"}, {filter(op(impl.NotExpr, col(0)), both), "01"},
		{filter(col(0), filter(col(1), both)), "00"},
		{project(scan(0), col(1), col(0), col(1)), "101"}, {project(scan(0), lit(1), val(null), lit(0)), "010"},
		{project(scan(0), op(impl.Plus, col(0), lit(1)), op(impl.LessThan, col(0), lit(1)), equals(0, 1), isNull(1)), "1010"},
		{project(scan(0), op(impl.AndExpr, col(1), lit(0)), op(impl.AndExpr, col(1), lit(1)), op(impl.OrExpr, lit(1), col(1))), "010"},
		{project(filter(col(1), scan(0)), col(1)), "0"},
		{join(equals(0, 2), scan(0), scan(2)), "010"}, {join(equals(0, 2), scan(2), scan(0)), "001"}, {join(equals(1, 2), scan(0), scan(1)), "011"},
		{leftJoin(equals(0, 2), scan(0), scan(2)), "011"}, {leftJoin(equals(0, 1), scan(2), scan(0)), "011"}, {leftJoin(equals(0, 1), scan(2), scan(2)), "01"},
		{filter(col(1), leftJoin(equals(0, 1), scan(2), scan(2))), "00"},
		{union(scan(1), scan(2)), "1"}, {union(scan(2), scan(1)), "1"}, {union(scan(2), scan(2)), "0"}, {union(scan(1), scan(1)), "1"},
		{union(scan(0), project(scan(0), col(1), col(0))), "11"}, {union(scan(0), project(scan(0), col(0), lit(1))), "01"},
		{distinct(scan(0)), "01"}, {group(scan(0)), "0"}, {group(scan(0), 0), "00"}, {group(scan(0), 1), "10"}, {group(scan(0), 0, 1), "010"},
		{group(scan(1)), "0"}, {leftJoin(lit(1), scan(2), group(scan(1))), "01"},
	} {
		if got := impl.NullableColumns(c.p, widths, flags); !equal(got, bools(c.want)) {
			t.Errorf("NullableColumns(%v) = %v, want %s", c.p, got, c.want)
		}
	}
}

func TestRowBound(t *testing.T) {
	widths := []int{1, 1, 1, 1}
	counts := []int{3, 0, 400, 1}
	pair := join(lit(1), scan(2), scan(2))
	many := project(join(lit(1), pair, pair), col(0))
	for _, c := range []struct {
		p    impl.Plan
		want int
	}{
		{scan(0), 3}, {scan(1), 0}, {scan(2), 400}, {filter(lit(0), scan(0)), 3}, {project(scan(0), lit(1), col(0)), 3}, {distinct(scan(0)), 3},
		{join(lit(1), scan(0), scan(2)), 1200}, {join(lit(0), scan(2), scan(0)), 1200}, {join(lit(1), scan(0), scan(1)), 0}, {join(lit(1), scan(1), scan(0)), 0},
		{leftJoin(lit(1), scan(0), scan(2)), 1200}, {leftJoin(lit(1), scan(0), scan(1)), 3}, {leftJoin(lit(1), scan(1), scan(0)), 0}, {leftJoin(lit(1), scan(0), scan(3)), 3},
		{union(scan(0), scan(2)), 403}, {union(scan(1), scan(0)), 3}, {group(scan(0), 0), 3}, {group(scan(0)), 1}, {group(scan(1)), 0}, {group(scan(3)), 1}, {group(scan(1), 0), 0},
		{pair, 160000}, {join(lit(1), pair, scan(2)), 64000000}, {join(lit(1), pair, pair), impl.MaxBound}, {leftJoin(lit(1), pair, pair), impl.MaxBound},
		{join(lit(1), many, many), impl.MaxBound}, {leftJoin(lit(1), many, many), impl.MaxBound}, {union(many, many), impl.MaxBound},
		{leftJoin(lit(1), many, scan(1)), impl.MaxBound}, {join(lit(1), many, scan(1)), 0}, {join(lit(1), scan(3), many), impl.MaxBound},
		{filter(lit(1), many), impl.MaxBound}, {group(many, 0), impl.MaxBound}, {distinct(many), impl.MaxBound}, {group(many), 1},
	} {
		if got := impl.RowBound(c.p, widths, counts); got != c.want {
			t.Errorf("RowBound(%v) = %d, want %d", c.p, got, c.want)
		}
	}
	cube := join(lit(1), pair, scan(2))
	for _, c := range []struct{ first, want int }{{15, 960000000}, {16, impl.MaxBound}, {0, 0}} {
		if got := impl.RowBound(join(lit(1), scan(0), cube), widths, []int{c.first, 0, 400, 0}); got != c.want {
			t.Errorf("RowBound of %d rows and 64000000 rows = %d, want %d", c.first, got, c.want)
		}
	}
	if got := impl.RowBound(union(join(lit(1), scan(0), cube), cube), widths, []int{15, 0, 400, 0}); got != -1 {
		t.Errorf("RowBound of a union of different widths = %d", got)
	}
	if got := impl.RowBound(union(project(join(lit(1), scan(0), cube), col(0)), project(cube, col(0))), widths, []int{15, 0, 400, 0}); got != impl.MaxBound {
		t.Errorf("RowBound of a union of 1024000000 rows = %d", got)
	}
}

func TestIsDuplicateFree(t *testing.T) {
	widths := []int{2, 1}
	sets := []bool{true, false}
	next := op(impl.Plus, col(1), lit(1))
	for _, c := range []struct {
		p    impl.Plan
		want bool
	}{
		{scan(0), true}, {scan(1), false}, {filter(lit(1), scan(0)), true}, {filter(lit(1), scan(1)), false}, {filter(lit(0), scan(1)), false},
		{distinct(scan(0)), true}, {distinct(scan(1)), true}, {distinct(union(scan(1), scan(1))), true},
		{group(scan(0)), true}, {group(scan(1)), true}, {group(scan(1), 0), true},
		{union(scan(0), scan(0)), false}, {union(distinct(scan(1)), distinct(scan(1))), false},
		{join(lit(1), scan(0), scan(0)), true}, {join(lit(1), scan(0), scan(1)), false}, {join(lit(1), scan(1), scan(0)), false}, {join(lit(1), scan(1), scan(1)), false},
		{leftJoin(lit(1), scan(0), scan(0)), true}, {leftJoin(lit(1), scan(0), scan(1)), false}, {leftJoin(lit(1), scan(1), scan(0)), false},
		{leftJoin(lit(1), scan(0), distinct(scan(1))), true},
		{project(scan(0), col(0), col(1)), true}, {project(scan(0), col(1), col(0)), true}, {project(scan(0), col(1), next, col(0), lit(1)), true},
		{project(scan(0), col(0)), false}, {project(scan(0), col(1)), false}, {project(scan(0), col(0), col(0)), false}, {project(scan(0), col(0), next), false},
		{project(scan(0), col(0), lit(1)), false}, {project(scan(0), col(0), op(impl.NotExpr, col(1))), false},
		{project(scan(1), col(0)), false}, {project(distinct(scan(1)), col(0)), true}, {project(group(scan(1), 0), col(0)), false},
		{project(group(scan(1), 0), col(1), col(0)), true}, {project(join(lit(1), scan(0), scan(0)), col(0), col(1), col(2)), false},
		{project(join(lit(1), scan(0), scan(0)), columns(4)...), true},
	} {
		if got := impl.IsDuplicateFree(c.p, widths, sets); got != c.want {
			t.Errorf("IsDuplicateFree(%v) = %v", c.p, got)
		}
	}
}

func TestInvalidArgumentsHaveNoProperties(t *testing.T) {
	widths := []int{2, 1}
	flags, counts, sets := [][]bool{bools("00"), bools("0")}, []int{1, 1}, []bool{true, true}
	none := func(p impl.Plan, widths []int, flags [][]bool, counts []int, sets []bool) bool {
		return impl.NullableColumns(p, widths, flags) == nil && impl.RowBound(p, widths, counts) == -1 && !impl.IsDuplicateFree(p, widths, sets)
	}
	for i, p := range invalidPlans() {
		if !none(p, widths, flags, counts, sets) {
			t.Errorf("the invalid plan %d has properties", i)
		}
	}
	p := distinct(scan(0))
	for _, wrong := range [][]int{nil, {}, {0, 1}, {2, 7}, {2, -1}} {
		if !none(p, wrong, flags, counts, sets) {
			t.Errorf("a plan has properties for the widths %v", wrong)
		}
	}
	if !none(p, []int{1, 1, 1, 1, 1}, slices.Repeat([][]bool{{false}}, 5), []int{1, 1, 1, 1, 1}, bools("11111")) {
		t.Error("a plan has properties for five tables")
	}
	for _, wrong := range [][][]bool{nil, {bools("00")}, {bools("00"), nil}, {bools("00"), bools("00")}, {bools("0"), bools("0")}, {bools("000"), bools("0")}, {bools("00"), bools("0"), nil}, {nil, bools("0")}} {
		if got := impl.NullableColumns(p, widths, wrong); got != nil {
			t.Errorf("NullableColumns for the flags %v = %v", wrong, got)
		}
	}
	for _, wrong := range [][]int{nil, {1}, {1, 1, 1}, {-1, 1}, {1, -1}, {401, 1}, {1, 401}} {
		if got := impl.RowBound(p, widths, wrong); got != -1 {
			t.Errorf("RowBound for the numbers %v = %d", wrong, got)
		}
	}
	for _, wrong := range [][]bool{nil, bools("1"), bools("111")} {
		if impl.IsDuplicateFree(p, widths, wrong) {
			t.Errorf("IsDuplicateFree for the flags %v", wrong)
		}
	}
}

func TestP035ColumnsThatAreNotNullableHaveNoNulls(t *testing.T) {
	without := 0
	for _, c := range somePlans(t, 35, 1000) {
		flags := impl.NullableColumns(c.p, c.widths, flagsOf(c.db))
		width := impl.PlanWidth(c.p, c.widths)
		if len(flags) != width {
			t.Fatalf("NullableColumns(%v) = %v for the width %d", c.p, flags, width)
		}
		for i, has := range nullsIn(rowsOf(t, c.p, c.db), width) {
			if !flags[i] {
				without++
			}
			if has && !flags[i] {
				t.Fatalf("NullableColumns(%v) = %v, but the column %d has a null for %v", c.p, flags, i, c.db)
			}
		}
	}
	if without < 300 {
		t.Errorf("only %d columns are not nullable", without)
	}
}

func TestP036MoreNullableColumnsGiveMoreNullableColumns(t *testing.T) {
	m := &maker{state: 36}
	for _, c := range somePlans(t, 36, 400) {
		some, more, all := flagsOf(c.db), flagsOf(c.db), flagsOf(c.db)
		for i := range some {
			for k := range some[i] {
				more[i][k] = some[i][k] || m.below(2) == 0
				all[i][k] = true
			}
		}
		a, b, top := impl.NullableColumns(c.p, c.widths, some), impl.NullableColumns(c.p, c.widths, more), impl.NullableColumns(c.p, c.widths, all)
		for i := range top {
			if a[i] && !b[i] || b[i] && !top[i] {
				t.Fatalf("NullableColumns(%v) = %v, %v and %v for %v, %v and all", c.p, a, b, top, some, more)
			}
		}
	}
}

func TestP037ResultsHaveAtMostAsManyRowsAsTheBound(t *testing.T) {
	m := &maker{state: 37}
	for range 300 {
		db := m.db(t, 10)
		p, _ := m.plan(widthsOf(db), m.below(5))
		bound := impl.RowBound(p, widthsOf(db), countsOf(db))
		if n := len(rowsOf(t, p, db)); n > bound || bound > impl.MaxBound {
			t.Fatalf("%v has %d rows, but the bound %d, for %v", p, n, bound, db)
		}
	}
}

func TestP038LargerTablesHaveLargerBounds(t *testing.T) {
	m := &maker{state: 38}
	for _, c := range somePlans(t, 38, 300) {
		counts := countsOf(c.db)
		before := impl.RowBound(c.p, c.widths, counts)
		for range 5 {
			i := m.below(len(counts))
			counts[i] += m.below(impl.MaxRows + 1 - counts[i])
			after := impl.RowBound(c.p, c.widths, counts)
			if after < before {
				t.Fatalf("RowBound(%v) decreases from %d to %d for %v", c.p, before, after, counts)
			}
			before = after
		}
	}
}

func TestP039PlansThatAreDuplicateFreeHaveNoDuplicates(t *testing.T) {
	free := 0
	for _, c := range somePlans(t, 39, 1000) {
		if !impl.IsDuplicateFree(c.p, c.widths, setsOf(c.db)) {
			continue
		}
		if c.p.Kind != impl.Scan && c.p.Kind != impl.Distinct && c.p.Kind != impl.Group {
			free++
		}
		if list := rowsOf(t, c.p, c.db); !isSet(list) {
			t.Fatalf("IsDuplicateFree(%v), but its rows are %v for %v", c.p, list, c.db)
		}
	}
	if free < 30 {
		t.Errorf("only %d plans without duplicates are no Scan, Distinct or Group", free)
	}
}

func TestP040DistinctIsSuperfluousForDuplicateFreePlans(t *testing.T) {
	for _, c := range somePlans(t, 40, 200) {
		if !impl.IsDuplicateFree(distinct(c.p), c.widths, make([]bool, len(c.widths))) {
			t.Fatalf("IsDuplicateFree is false for the distinct rows of %v", c.p)
		}
		if impl.IsDuplicateFree(c.p, c.widths, setsOf(c.db)) {
			sameResult(t, distinct(c.p), c.p, c.db)
		}
	}
}
