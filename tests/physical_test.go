package tests

import (
	"bytes"
	"runtime"
	"slices"
	"strings"
	"sync"
	"testing"

	"loop.example/queryoptimizer/impl"
)

// someSizes are numbers of buckets.
var someSizes = []int{1, 2, 3, 7, 64, 999, impl.MaxSize}

func TestHashJoinAndMergeJoin(t *testing.T) {
	a := table(t, 2, "null null", "null 1", "-9999 2", "1 1", "1 1", "1 5", "2 null", "3 2", "9999 -9999")
	b := table(t, 3, "null 0 null", "null 7 1", "1 1 4", "1 2 null", "2 2 -9999", "4 2 5", "9999 9999 2")
	for _, c := range []struct {
		name   string
		ca, cb int
		want   []string
	}{
		{"the first columns", 0, 0, []string{"1 1 1 1 4", "1 1 1 1 4", "1 1 1 2 null", "1 1 1 2 null", "1 5 1 1 4", "1 5 1 2 null", "2 null 2 2 -9999", "9999 -9999 9999 9999 2"}},
		{"the first and the last column", 0, 2, []string{"-9999 2 2 2 -9999", "1 1 null 7 1", "1 1 null 7 1", "1 5 null 7 1", "2 null 9999 9999 2"}},
		{"the last and the first column", 1, 0, []string{"null 1 1 1 4", "null 1 1 2 null", "-9999 2 2 2 -9999", "1 1 1 1 4", "1 1 1 1 4", "1 1 1 2 null", "1 1 1 2 null", "3 2 2 2 -9999"}},
		{"the last columns", 1, 2, []string{"null 1 null 7 1", "-9999 2 9999 9999 2", "1 1 null 7 1", "1 1 null 7 1", "1 5 4 2 5", "3 2 9999 9999 2", "9999 -9999 2 2 -9999"}},
		{"a column in the middle", 1, 1, []string{"null 1 1 1 4", "-9999 2 1 2 null", "-9999 2 2 2 -9999", "-9999 2 4 2 5", "1 1 1 1 4", "1 1 1 1 4", "3 2 1 2 null", "3 2 2 2 -9999", "3 2 4 2 5"}},
	} {
		want := impl.Table{Width: 5, Rows: rows(c.want...)}
		if got := mergeJoined(t, joinCase{a, b, c.ca, c.cb}); !equal(got, want) {
			t.Errorf("%s: MergeJoin = %v, want %v", c.name, shown(got), shown(want))
		}
		for _, n := range someSizes {
			if got := hashJoined(t, joinCase{a, b, c.ca, c.cb}, n); !equal(got, want) {
				t.Errorf("%s: HashJoin with %d buckets = %v, want %v", c.name, n, shown(got), shown(want))
			}
		}
	}
}

func TestJoinsWithoutMatches(t *testing.T) {
	some := table(t, 1, "null", "null", "1", "2", "9999")
	for name, c := range map[string]joinCase{
		"no rows on the left":       {impl.Table{Width: 1}, some, 0, 0},
		"no rows on the right":      {some, impl.Table{Width: 2}, 0, 1},
		"no rows on both sides":     {impl.Table{Width: 3}, impl.Table{Width: 3}, 2, 2},
		"nulls alone on the left":   {table(t, 1, "null", "null"), some, 0, 0},
		"nulls alone on the right":  {some, table(t, 1, "null", "null"), 0, 0},
		"nulls alone on both sides": {table(t, 2, "null 1", "null 2"), table(t, 2, "1 null", "2 null"), 0, 1},
		"other numbers":             {some, table(t, 1, "null", "-9999", "0", "3", "9998"), 0, 0},
		"numbers of one bucket":     {table(t, 1, "0", "1000", "2000"), table(t, 1, "-1000", "3000", "4000"), 0, 0},
	} {
		want := impl.Table{Width: c.a.Width + c.b.Width}
		if got := mergeJoined(t, c); !equal(got, want) {
			t.Errorf("%s: MergeJoin = %v", name, shown(got))
		}
		for _, n := range someSizes {
			if got := hashJoined(t, c, n); !equal(got, want) {
				t.Errorf("%s: HashJoin with %d buckets = %v", name, n, shown(got))
			}
		}
	}
}

// checkJoin checks both joins of a case against slowJoin.
func checkJoin(t *testing.T, c joinCase, sizes []int) {
	t.Helper()
	want := impl.Table{Width: c.a.Width + c.b.Width}
	if list := slowJoin(c); len(list) <= impl.MaxRows {
		want = tableOf(t, want.Width, list)
	}
	if got := mergeJoined(t, c); !equal(got, want) {
		t.Fatalf("MergeJoin of %v = %v, want %v", c, shown(got), shown(want))
	}
	for _, n := range sizes {
		if got := hashJoined(t, c, n); !equal(got, want) {
			t.Fatalf("HashJoin of %v with %d buckets = %v, want %v", c, n, shown(got), shown(want))
		}
	}
}

func TestJoinsWithManyRows(t *testing.T) {
	for _, c := range []struct {
		name string
		a, b impl.Table
		want int
	}{
		{"20 by 20 rows of one number", blocks(t, 2, 1, 20), blocks(t, 2, 1, 20), 400},
		{"20 by 21 rows of one number", blocks(t, 2, 1, 20), blocks(t, 2, 1, 21), 0},
		{"400 rows by one", blocks(t, 1, 1, 400), blocks(t, 1, 1, 1), 400},
		{"200 rows by two", blocks(t, 2, 1, 200), blocks(t, 1, 1, 2), 400},
		{"201 rows by two", blocks(t, 2, 1, 201), blocks(t, 1, 1, 2), 0},
		{"400 by 400 rows of one number", blocks(t, 3, 1, 400), blocks(t, 3, 1, 400), 0},
		{"400 different numbers", blocks(t, 1, 400, 1), blocks(t, 5, 400, 1), 400},
		{"100 numbers, twice each on both sides", blocks(t, 2, 100, 2), blocks(t, 2, 100, 2), 400},
		{"101 numbers, twice each on both sides", blocks(t, 2, 101, 2), blocks(t, 2, 101, 2), 0},
		{"200 numbers, twice each on one side", blocks(t, 2, 200, 2), blocks(t, 2, 200, 1), 400},
		{"40 numbers, ten times each on both sides", blocks(t, 2, 40, 10), blocks(t, 2, 40, 10), 0},
		{"5 numbers, eighty times each on both sides", blocks(t, 2, 5, 80), blocks(t, 2, 5, 80), 0},
		{"20 by 20 rows of one number, and one more", blocks(t, 1, 1, 20), unionOf(t, blocks(t, 1, 1, 20), table(t, 1, "8888")), 400},
		{"401 rows of two numbers", unionOf(t, blocks(t, 1, 1, 20), table(t, 1, "8888")), unionOf(t, blocks(t, 1, 1, 20), table(t, 1, "8888")), 0},
	} {
		for _, x := range []joinCase{{c.a, c.b, 0, 0}, {c.b, c.a, 0, 0}} {
			checkJoin(t, x, someSizes)
			if got := mergeJoined(t, x); len(got.Rows) != c.want {
				t.Errorf("%s: MergeJoin has %d rows, want %d", c.name, len(got.Rows), c.want)
			}
		}
	}
}

func TestJoinsOfInvalidArguments(t *testing.T) {
	list := wrongMatches(t)
	for first := 1; first <= impl.MaxWidth; first++ {
		// Both widths together are MaxWidth and one more.
		for second := 1; second <= impl.MaxWidth; second++ {
			c := joinCase{joinTables(t, first)[3], joinTables(t, second)[3], first - 1, second - 1}
			if first+second > impl.MaxWidth {
				list = append(list, c, joinCase{impl.Table{Width: first}, impl.Table{Width: second}, 0, 0})
			} else {
				checkJoin(t, c, []int{5})
			}
		}
	}
	for _, c := range list {
		if x, ok := impl.MergeJoin(c.a, c.b, c.ca, c.cb); ok || !equal(x, impl.Table{}) {
			t.Errorf("MergeJoin of %v = %v, %v", c, x, ok)
		}
		for _, n := range []int{1, 5, impl.MaxSize} {
			if x, ok := impl.HashJoin(c.a, c.b, c.ca, c.cb, n); ok || !equal(x, impl.Table{}) {
				t.Errorf("HashJoin of %v with %d buckets = %v, %v", c, n, x, ok)
			}
		}
	}
	for _, n := range wrongSizes() {
		for _, x := range []impl.Table{table(t, 1, "1"), {Width: 1}} {
			if y, ok := impl.HashJoin(x, x, 0, 0, n); ok || !equal(y, impl.Table{}) {
				t.Errorf("HashJoin with %d buckets = %v, %v", n, y, ok)
			}
		}
	}
}

func TestP101TheNumberOfBucketsDoesNotMatter(t *testing.T) {
	for _, c := range joinCases(t) {
		want := mergeJoined(t, c)
		for _, n := range []int{1, 4, impl.MaxSize} {
			if got := hashJoined(t, c, n); !equal(got, want) {
				t.Fatalf("HashJoin of %v with %d buckets = %v, want %v", c, n, shown(got), shown(want))
			}
		}
	}
	c := joinCase{joinTables(t, 2)[4], joinTables(t, 3)[8], 1, 2}
	if want := mergeJoined(t, c); len(want.Rows) < 20 {
		t.Errorf("MergeJoin of %v has only %d rows", c, len(want.Rows))
	} else {
		for n := 1; n <= impl.MaxSize; n++ {
			if got := hashJoined(t, c, n); !equal(got, want) {
				t.Fatalf("HashJoin of %v with %d buckets = %v, want %v", c, n, shown(got), shown(want))
			}
		}
	}
}

// planOf returns the join or left join of a case, with equality of both columns.
func planOf(c joinCase, kind int) impl.Plan {
	return impl.Plan{Kind: kind, Exprs: []impl.Expr{equals(c.ca, c.a.Width+c.cb)}, Kids: []impl.Plan{scan(0), scan(1)}}
}

func TestP102PhysicalJoinsAreJoins(t *testing.T) {
	full, empty := 0, 0
	for _, c := range joinCases(t) {
		checkJoin(t, c, []int{3})
		got := mergeJoined(t, c)
		if want := rowsOf(t, planOf(c, impl.Join), []impl.Table{c.a, c.b}); !equal(got.Rows, want) {
			t.Fatalf("MergeJoin of %v = %v, the join has the rows %v", c, shown(got), want)
		}
		if len(got.Rows) > 0 {
			full++
		} else if len(slowJoin(c)) == 0 {
			empty++
		}
	}
	if full < 1000 || empty < 1000 {
		t.Errorf("only %d joins have rows, only %d have none", full, empty)
	}
}

func TestP031ALeftJoinContainsThePhysicalJoin(t *testing.T) {
	for _, c := range joinCases(t) {
		inner := slowJoin(c)
		want := slices.Clone(inner)
		for _, r := range c.a.Rows {
			if !slices.ContainsFunc(inner, func(s []impl.Value) bool { return slices.Equal(s[:c.a.Width], r) }) {
				want = append(want, slices.Concat(r, nulls(c.b.Width, 1)[0]))
			}
		}
		if len(want) > impl.MaxRows {
			continue
		}
		got := tableOf(t, c.a.Width+c.b.Width, rowsOf(t, planOf(c, impl.LeftJoin), []impl.Table{c.a, c.b}))
		if !equal(got, tableOf(t, got.Width, want)) {
			t.Fatalf("the left join of %v = %v, want the rows %v", c, shown(got), want)
		}
		for _, r := range mergeJoined(t, c).Rows {
			if impl.CountRow(got, r) < countOf(inner, r) {
				t.Fatalf("the left join of %v = %v, but the join has the row %v", c, shown(got), r)
			}
		}
	}
}

func TestP103BothSidesOfAJoinAreSymmetric(t *testing.T) {
	for _, c := range joinCases(t) {
		x, y := mergeJoined(t, c), mergeJoined(t, c.exchanged())
		var list [][]impl.Value
		for _, r := range y.Rows {
			list = append(list, slices.Concat(r[c.b.Width:], r[:c.b.Width]))
		}
		if len(x.Rows) != len(y.Rows) || !equal(x, tableOf(t, x.Width, list)) {
			t.Fatalf("MergeJoin of %v = %v, with exchanged tables %v", c, shown(x), shown(y))
		}
	}
}

func TestP104NullsMatchNothing(t *testing.T) {
	for _, c := range joinCases(t) {
		for _, r := range append(mergeJoined(t, c).Rows, hashJoined(t, c, 2).Rows...) {
			if v, w := r[c.ca], r[c.a.Width+c.cb]; v.Null || w.Null || v.N != w.N {
				t.Fatalf("a join of %v has the row %v", c, r)
			}
		}
	}
}

func TestBucketSizes(t *testing.T) {
	x := table(t, 2, "null -9999", "null 0", "-9999 null", "-9998 0", "0 1", "0 1", "1 9999", "9999 -9999")
	for _, c := range []struct {
		col, buckets int
		want         map[int]int
	}{
		{0, 1, map[int]int{0: 6}}, {0, 2, map[int]int{0: 3, 1: 3}}, {0, 3, map[int]int{0: 4, 1: 2}}, {0, 4, map[int]int{0: 2, 1: 1, 2: 1, 3: 2}}, {0, 7, map[int]int{0: 1, 1: 1, 3: 2, 4: 1, 6: 1}},
		{0, impl.MaxSize, map[int]int{0: 2, 1: 1, 998: 1, 999: 2}},
		{1, 1, map[int]int{0: 7}}, {1, 2, map[int]int{0: 5, 1: 2}}, {1, impl.MaxSize, map[int]int{0: 4, 998: 1, 999: 2}},
	} {
		want := make([]int, c.buckets)
		for n, size := range c.want {
			want[n] = size
		}
		if got := impl.BucketSizes(x, c.col, c.buckets); !equal(got, want) {
			t.Errorf("BucketSizes(%v, %d, %d) = %v, want %v", shown(x), c.col, c.buckets, got, want)
		}
	}
	for _, empty := range []impl.Table{{Width: 6}, tableOf(t, 6, nulls(6, 400))} {
		for _, n := range []int{1, impl.MaxSize} {
			if got := impl.BucketSizes(empty, 5, n); !equal(got, make([]int, n)) {
				t.Errorf("BucketSizes(%v, 5, %d) = %v", shown(empty), n, got)
			}
		}
	}
	if got := impl.BucketSizes(tableOf(t, 1, numbered(-9999, 400)), 0, 400); !equal(got, slices.Repeat([]int{1}, 400)) {
		t.Errorf("BucketSizes of the first 400 numbers = %v", got)
	}
}

func TestBucketSizesOfInvalidArguments(t *testing.T) {
	for _, x := range invalidTables() {
		if got := impl.BucketSizes(x, 0, 1); got != nil {
			t.Errorf("BucketSizes(%v) = %v", x, got)
		}
	}
	for width := 1; width <= impl.MaxWidth; width++ {
		for _, x := range joinTables(t, width)[:4] {
			for _, c := range wrongColumns(width) {
				if got := impl.BucketSizes(x, c, 3); got != nil {
					t.Errorf("BucketSizes(%v, %d, 3) = %v", shown(x), c, got)
				}
			}
			for _, n := range wrongSizes() {
				if got := impl.BucketSizes(x, width-1, n); got != nil {
					t.Errorf("BucketSizes(%v, %d, %d) = %v", shown(x), width-1, n, got)
				}
			}
		}
	}
}

func TestP105EveryNumberHasItsBucket(t *testing.T) {
	for width := 1; width <= impl.MaxWidth; width++ {
		for _, x := range append(joinTables(t, width), someTables(t, width)[5]) {
			for c := range width {
				for _, n := range append([]int{5, 20, 128, 998}, someSizes...) {
					want, sum, all := make([]int, n), 0, 0
					for _, v := range columnOf(x, c) {
						if !v.Null {
							want[(v.N+impl.MaxNumber)%n]++
							all++
						}
					}
					got := impl.BucketSizes(x, c, n)
					for _, size := range got {
						sum += size
					}
					if sum != all || !equal(got, want) {
						t.Fatalf("BucketSizes(%v, %d, %d) = %v, want %v", shown(x), c, n, got, want)
					}
				}
			}
		}
	}
}

// busyJoins returns cases whose buckets have many rows, with results that are and are not too large.
func busyJoins(t *testing.T) []joinCase {
	t.Helper()
	return []joinCase{
		{blocks(t, 2, 100, 2), blocks(t, 2, 100, 2), 0, 0}, {blocks(t, 3, 400, 1), blocks(t, 3, 400, 1), 2, 2}, {blocks(t, 2, 40, 10), blocks(t, 2, 40, 10), 0, 0}, {blocks(t, 1, 1, 400), blocks(t, 1, 1, 400), 0, 0},
	}
}

// The goroutines of one call or of several ones may run in any order.
func TestJoinsDoNotDependOnTheOrderOfGoroutines(t *testing.T) {
	defer runtime.GOMAXPROCS(runtime.GOMAXPROCS(0))
	for _, c := range busyJoins(t) {
		want := mergeJoined(t, c)
		for _, processors := range []int{1, 2, 8} {
			runtime.GOMAXPROCS(processors)
			var callers sync.WaitGroup
			for i := range 24 {
				n := []int{1, 10, 400, impl.MaxSize}[i%4]
				callers.Go(func() {
					if got, ok := impl.HashJoin(c.a, c.b, c.ca, c.cb, n); !ok || !equal(got, want) {
						t.Errorf("HashJoin of %v with %d buckets = %v, %v, want %v", c, n, shown(got), ok, shown(want))
					}
				})
			}
			callers.Wait()
		}
	}
}

// workers returns how many goroutines of the program exist beside the caller's.
func workers() int {
	stacks := make([]byte, 1<<22)
	stacks = stacks[:runtime.Stack(stacks, true)]
	count := 0
	for _, stack := range bytes.Split(stacks, []byte("\n\n")) {
		if strings.Contains(string(stack), "queryoptimizer/impl.") {
			count++
		}
	}
	return count
}

func TestJoinsLeaveNoGoroutine(t *testing.T) {
	// With one processor, a goroutine that has done its last work is gone when the caller goes on, unless the system interrupts it, so some calls may leave it for a moment, but not all of them.
	defer runtime.GOMAXPROCS(runtime.GOMAXPROCS(1))
	for _, c := range busyJoins(t) {
		for _, n := range []int{1, 7, 400, impl.MaxSize} {
			least := 1
			for range 50 {
				hashJoined(t, c, n)
				if least = min(least, workers()); least == 0 {
					break
				}
			}
			if least > 0 {
				t.Errorf("HashJoin of %v with %d buckets leaves goroutines", c, n)
			}
		}
	}
}
