package tests

import (
	"math"
	"slices"
	"testing"

	"loop.example/queryoptimizer/impl"
)

func TestValidDependencies(t *testing.T) {
	for width := 1; width <= impl.MaxWidth; width++ {
		all := 1<<width - 1
		for _, fds := range [][]impl.Dependency{nil, {}, deps(0, 0), deps(all, all), deps(0, all), deps(all, 0), deps(1, 1, 1, 1), slices.Repeat(deps(all, 1), impl.MaxDependencies)} {
			if !impl.ValidDependencies(fds, width) {
				t.Errorf("ValidDependencies(%v, %d) is false", fds, width)
			}
		}
		for _, fds := range invalidDependencies(width) {
			if impl.ValidDependencies(fds, width) {
				t.Errorf("ValidDependencies(%v, %d) is true", fds, width)
			}
		}
	}
	for _, width := range wrongWidths() {
		for _, fds := range [][]impl.Dependency{nil, deps(0, 0), deps(1, 2), deps(-1, math.MaxInt)} {
			if impl.ValidDependencies(fds, width) {
				t.Errorf("ValidDependencies(%v, %d) is true", fds, width)
			}
		}
	}
}

func TestClosureOf(t *testing.T) {
	chain := deps(1, 2, 2, 4, 4, 8, 8, 16, 16, 32)
	backwards := deps(16, 32, 8, 16, 4, 8, 2, 4, 1, 2)
	for _, c := range []struct {
		fds   []impl.Dependency
		width int
		set   int
		want  int
	}{
		{nil, 1, 0, 0}, {nil, 1, 1, 1}, {nil, 6, 0, 0}, {nil, 6, 63, 63}, {nil, 6, 37, 37},
		{deps(0, 1), 1, 0, 1}, {deps(0, 5), 3, 0, 5}, {deps(0, 5), 3, 2, 7}, {deps(0, 0), 3, 0, 0}, {deps(7, 0), 3, 7, 7}, {deps(0, 63), 6, 0, 63},
		{deps(3, 4), 3, 1, 1}, {deps(3, 4), 3, 2, 2}, {deps(3, 4), 3, 3, 7}, {deps(3, 4), 4, 11, 15}, {deps(3, 4), 3, 4, 4}, {deps(3, 1), 3, 2, 2},
		{chain, 6, 1, 63}, {chain, 6, 8, 56}, {chain, 6, 32, 32}, {chain, 6, 0, 0}, {backwards, 6, 1, 63}, {backwards, 6, 4, 60}, {backwards, 6, 32, 32},
		{deps(0, 1, 1, 2, 3, 4), 4, 0, 7}, {deps(3, 4, 1, 2, 0, 1), 4, 0, 7}, {deps(6, 8, 1, 2, 1, 4), 4, 1, 15}, {deps(6, 8, 1, 2), 4, 1, 3},
		{deps(1, 2, 2, 1), 3, 1, 3}, {deps(1, 2, 2, 1), 3, 2, 3}, {deps(1, 2, 2, 1), 3, 4, 4}, {slices.Repeat(deps(1, 2), impl.MaxDependencies), 2, 1, 3},
	} {
		if got := impl.ClosureOf(c.fds, c.width, c.set); got != c.want {
			t.Errorf("ClosureOf(%v, %d, %d) = %d, want %d", c.fds, c.width, c.set, got, c.want)
		}
	}
}

// checkNoDependencies checks the results of all functions for invalid dependencies, widths or sets.
func checkNoDependencies(t *testing.T, fds []impl.Dependency, width int, set int) {
	t.Helper()
	f := dep(set, 0)
	if got := impl.ClosureOf(fds, width, set); got != -1 {
		t.Errorf("ClosureOf(%v, %d, %d) = %d", fds, width, set, got)
	}
	if impl.Implies(fds, width, f) || impl.Implies(fds, width, dep(0, set)) || impl.IsKey(fds, width, set) {
		t.Errorf("Implies(%v, %d, %v) or IsKey is true", fds, width, f)
	}
	if got := impl.Derivation(fds, width, set); got != nil {
		t.Errorf("Derivation(%v, %d, %d) = %v", fds, width, set, got)
	}
	if impl.CheckDerivation(fds, width, f, nil) {
		t.Errorf("CheckDerivation(%v, %d, %v, nil) is true", fds, width, f)
	}
}

func TestInvalidDependenciesHaveNoResults(t *testing.T) {
	for width := 1; width <= impl.MaxWidth; width++ {
		for _, fds := range invalidDependencies(width) {
			checkNoDependencies(t, fds, width, 0)
			checkNoDependencies(t, fds, width, 1)
		}
		for _, set := range wrongSets(width) {
			checkNoDependencies(t, nil, width, set)
			checkNoDependencies(t, deps(0, 1), width, set)
		}
	}
	for _, width := range wrongWidths() {
		checkNoDependencies(t, nil, width, 0)
		checkNoDependencies(t, deps(0, 0), width, 1)
		checkNoDependencies(t, deps(1, 2), width, 3)
	}
}

func TestImpliesOfInvalidDependencies(t *testing.T) {
	fds := deps(0, 7)
	for _, f := range wrongDependencies(3) {
		if impl.Implies(fds, 3, f) || impl.CheckDerivation(fds, 3, f, nil) || impl.CheckDerivation(fds, 3, f, []int{0}) {
			t.Errorf("Implies or CheckDerivation of %v is true", f)
		}
	}
}

func TestP082ClosuresAreClosed(t *testing.T) {
	extended := 0
	someDependencies(82, 600, func(m *maker, fds []impl.Dependency, width int) {
		for set := range 1 << width {
			got := impl.ClosureOf(fds, width, set)
			if want := slowClosure(fds, width, set); got != want {
				t.Fatalf("ClosureOf(%v, %d, %d) = %d, want %d", fds, width, set, got, want)
			}
			if !hasAll(got, set) || impl.ClosureOf(fds, width, got) != got {
				t.Fatalf("ClosureOf(%v, %d, %d) = %d is not closed", fds, width, set, got)
			}
			if larger := set | m.below(1<<width); !hasAll(impl.ClosureOf(fds, width, larger), got) {
				t.Fatalf("ClosureOf(%v, %d, %d) does not contain that of %d", fds, width, larger, set)
			}
			if got != set && len(slowDerivation(fds, set)) > 1 {
				extended++
			}
		}
	})
	if extended < 1000 {
		t.Errorf("only %d sets are extended by several dependencies", extended)
	}
}

func TestImplies(t *testing.T) {
	fds := deps(1, 2, 6, 8)
	for _, c := range []struct {
		f    impl.Dependency
		want bool
	}{
		{dep(0, 0), true}, {dep(0, 1), false}, {dep(15, 15), true}, {dep(15, 0), true}, {dep(0, 15), false}, {dep(1, 1), true}, {dep(3, 2), true}, {dep(2, 3), false},
		{dep(1, 2), true}, {dep(6, 8), true}, {dep(5, 8), true}, {dep(5, 15), true}, {dep(1, 8), false}, {dep(4, 8), false}, {dep(9, 2), true}, {dep(9, 6), false}, {dep(1, 3), true}, {dep(1, 6), false},
	} {
		if got := impl.Implies(fds, 4, c.f); got != c.want {
			t.Errorf("Implies(%v, 4, %v) is %v", fds, c.f, got)
		}
	}
	if !impl.Implies(nil, 1, dep(1, 1)) || impl.Implies(nil, 1, dep(0, 1)) || !impl.Implies(deps(0, 1), 1, dep(0, 1)) || impl.Implies(nil, 6, dep(31, 32)) {
		t.Error("Implies of the widths 1 and MaxWidth")
	}
}

func TestP083ImplicationsFollowFromClosures(t *testing.T) {
	some := 0
	someDependencies(83, 800, func(m *maker, fds []impl.Dependency, width int) {
		for _, f := range fds {
			if !impl.Implies(fds, width, f) {
				t.Fatalf("Implies(%v, %d, %v) is false", fds, width, f)
			}
		}
		for range 30 {
			f := m.dependency(width)
			got := impl.Implies(fds, width, f)
			if got != hasAll(impl.ClosureOf(fds, width, f.From), f.To) || got != follows(fds, width, f) {
				t.Fatalf("Implies(%v, %d, %v) is %v", fds, width, f, got)
			}
			if got && !hasAll(f.From, f.To) && !slices.Contains(fds, f) {
				some++
			}
		}
	})
	if some < 1000 {
		t.Errorf("only %d dependencies follow from others", some)
	}
}

func TestHoldsIn(t *testing.T) {
	x := table(t, 3, "null 1 5", "null 1 6", "0 1 5", "1 2 5", "2 null 6", "3 null 6")
	for _, c := range []struct {
		f    impl.Dependency
		want bool
	}{
		{dep(0, 0), true}, {dep(7, 7), true}, {dep(7, 0), true}, {dep(0, 1), false}, {dep(0, 7), false}, {dep(1, 2), true}, {dep(1, 4), false}, {dep(1, 6), false}, {dep(2, 1), false},
		{dep(2, 4), false}, {dep(4, 2), false}, {dep(6, 1), false}, {dep(5, 2), true}, {dep(3, 4), false}, {dep(5, 7), true}, {dep(3, 3), true}, {dep(1, 3), true}, {dep(1, 1), true},
	} {
		if got := impl.HoldsIn(c.f, x); got != c.want {
			t.Errorf("HoldsIn(%v, %v) is %v", c.f, x, got)
		}
	}
	for _, c := range []struct {
		rows []string
		f    impl.Dependency
		want bool
	}{
		// Nulls agree with each other, but not with 0, and equal rows agree in everything.
		{[]string{"null 1", "null 2"}, dep(1, 2), false}, {[]string{"null 1", "null 1"}, dep(1, 2), true}, {[]string{"null 1", "0 2"}, dep(1, 2), true}, {[]string{"1 null", "1 null"}, dep(1, 2), true}, {[]string{"1 null", "1 0"}, dep(1, 2), false},
		{[]string{"null null", "null null"}, dep(0, 3), true}, {[]string{"0 0", "null null"}, dep(0, 1), false}, {[]string{"1 2", "1 2", "1 2"}, dep(0, 3), true}, {[]string{"1 2"}, dep(0, 3), true},
		// Only rows that are far from each other disagree.
		{[]string{"1 5", "2 6", "3 5", "4 7"}, dep(2, 1), false}, {[]string{"1 5", "2 6", "3 8", "4 7"}, dep(2, 1), true}, {[]string{"1 5", "2 5", "3 5"}, dep(0, 2), true}, {[]string{"1 5", "2 5", "3 6"}, dep(0, 2), false},
	} {
		if got := impl.HoldsIn(c.f, table(t, 2, c.rows...)); got != c.want {
			t.Errorf("HoldsIn(%v) for the rows %q is %v", c.f, c.rows, got)
		}
	}
}

func TestHoldsInAtTheLimits(t *testing.T) {
	most := numbered(0, impl.MaxRows)
	for i := range most {
		most[i] = append(most[i], num(0))
	}
	if x := tableOf(t, 2, most); !impl.HoldsIn(dep(0, 2), x) || !impl.HoldsIn(dep(1, 2), x) || impl.HoldsIn(dep(2, 1), x) {
		t.Error("HoldsIn for MaxRows rows")
	}
	most[impl.MaxRows-1][1] = null
	if x := tableOf(t, 2, most); impl.HoldsIn(dep(0, 2), x) || !impl.HoldsIn(dep(1, 2), x) || impl.HoldsIn(dep(2, 1), x) {
		t.Error("HoldsIn for MaxRows rows, the last of which has a null")
	}
	wide := table(t, 6, "1 2 3 4 5 6", "1 2 3 4 5 7")
	if !impl.HoldsIn(dep(32, 63), wide) || impl.HoldsIn(dep(31, 32), wide) || !impl.HoldsIn(dep(0, 31), wide) || impl.HoldsIn(dep(0, 32), wide) {
		t.Error("HoldsIn for a table of the width MaxWidth")
	}
}

func TestHoldsInOfInvalidArguments(t *testing.T) {
	for width := 1; width <= impl.MaxWidth; width++ {
		for _, x := range []impl.Table{{Width: width}, tableOf(t, width, [][]impl.Value{slices.Repeat(row("1"), width)})} {
			for _, f := range deps(0, 0, 0, 1<<width-1, 1<<width-1, 0, 1, 1<<width-1) {
				if !impl.HoldsIn(f, x) {
					t.Errorf("HoldsIn(%v, %v) is false", f, x)
				}
			}
			for _, f := range wrongDependencies(width) {
				if impl.HoldsIn(f, x) {
					t.Errorf("HoldsIn(%v, %v) is true", f, x)
				}
			}
		}
	}
	for _, x := range invalidTables() {
		for _, f := range deps(0, 0, 1, 1, 1, 0, -1, -1, 64, 0) {
			if impl.HoldsIn(f, x) {
				t.Errorf("HoldsIn(%v, %v) is true", f, x)
			}
		}
	}
}

func TestP084ImpliedDependenciesHold(t *testing.T) {
	some := 0
	someDependencies(84, 6000, func(m *maker, fds []impl.Dependency, width int) {
		var list [][]impl.Value
		for range m.below(6) {
			var r []impl.Value
			for range width {
				r = append(r, []impl.Value{null, num(0), num(1)}[m.below(3)])
			}
			list = append(list, r)
		}
		x := tableOf(t, width, list)
		valid := slices.DeleteFunc(slices.Clone(fds), func(f impl.Dependency) bool { return !impl.HoldsIn(f, x) })
		for range 20 {
			f := m.dependency(width)
			got := impl.HoldsIn(f, x)
			if got != slowHolds(f, list) {
				t.Fatalf("HoldsIn(%v, %v) is %v", f, x, got)
			}
			if !impl.Implies(valid, width, f) {
				continue
			}
			if !got {
				t.Fatalf("%v follows from %v, but does not hold in %v", f, valid, x)
			}
			if len(list) > 2 && !hasAll(f.From, f.To) {
				some++
			}
		}
	})
	if some < 1000 {
		t.Errorf("only %d dependencies follow from those of a table", some)
	}
}

// Two rows that agree just in a closure satisfy the dependencies, but nothing more for this set.
func TestOnlyImpliedDependenciesHoldInAllTables(t *testing.T) {
	someDependencies(840, 300, func(m *maker, fds []impl.Dependency, width int) {
		set := m.below(1 << width)
		a, b := make([]impl.Value, width), make([]impl.Value, width)
		for c := range width {
			b[c] = null
			if hasAll(impl.ClosureOf(fds, width, set), 1<<c) {
				a[c] = null
			}
		}
		x := tableOf(t, width, [][]impl.Value{a, b})
		for _, f := range fds {
			if !impl.HoldsIn(f, x) {
				t.Fatalf("%v of %v does not hold in %v", f, fds, x)
			}
		}
		for to := range 1 << width {
			if f := dep(set, to); impl.HoldsIn(f, x) != impl.Implies(fds, width, f) {
				t.Fatalf("Implies(%v, %d, %v) is %v", fds, width, f, impl.Implies(fds, width, f))
			}
		}
	})
}

func TestP085TrivialDependenciesHold(t *testing.T) {
	m := &maker{state: 85}
	parts := 0
	for width := 1; width <= impl.MaxWidth; width++ {
		for _, x := range someTables(t, width) {
			for range 30 {
				from := m.below(1 << width)
				if f := dep(from, from&m.below(1<<width)); !impl.HoldsIn(f, x) {
					t.Fatalf("HoldsIn(%v, %v) is false", f, x)
				}
				f := m.dependency(width)
				part := x
				part.Rows = slices.DeleteFunc(slices.Clone(x.Rows), func([]impl.Value) bool { return m.below(3) == 0 })
				if !impl.HoldsIn(f, x) {
					continue
				}
				if !impl.HoldsIn(f, part) {
					t.Fatalf("HoldsIn(%v, %v) is true, but not for the rows %v", f, x, part.Rows)
				}
				if !hasAll(f.From, f.To) && len(part.Rows) > 1 {
					parts++
				}
			}
		}
	}
	if parts < 50 {
		t.Errorf("only %d dependencies hold for parts of tables", parts)
	}
}

func TestDerivation(t *testing.T) {
	for _, c := range []struct {
		fds   []impl.Dependency
		width int
		set   int
		want  []int
	}{
		{nil, 1, 0, nil}, {nil, 6, 63, nil}, {deps(0, 1), 1, 0, []int{0}}, {deps(0, 1), 1, 1, nil}, {deps(0, 0), 3, 0, nil}, {deps(3, 1), 3, 3, nil},
		{deps(1, 2, 2, 4), 3, 1, []int{0, 1}}, {deps(2, 4, 1, 2), 3, 1, []int{1, 0}}, {deps(2, 4, 1, 2), 3, 2, []int{0}}, {deps(2, 4, 1, 2), 3, 4, nil}, {deps(2, 4, 1, 2), 3, 5, []int{1}},
		{deps(4, 8, 2, 4, 1, 2), 4, 1, []int{2, 1, 0}}, {deps(4, 8, 1, 2, 2, 4), 4, 1, []int{1, 2, 0}}, {deps(8, 16, 4, 8, 1, 2, 2, 4), 5, 1, []int{2, 3, 1, 0}},
		// One that adds nothing any more, one that adds only a part of To, and equal ones.
		{deps(1, 6, 1, 2, 1, 4), 3, 1, []int{0}}, {deps(1, 2, 1, 6, 1, 4), 3, 1, []int{0, 1}}, {deps(1, 2, 1, 4, 1, 6), 3, 1, []int{0, 1}}, {slices.Repeat(deps(0, 3), impl.MaxDependencies), 2, 0, []int{0}},
		{deps(32, 1, 16, 32, 8, 16, 4, 8, 2, 4, 0, 2), 6, 0, []int{5, 4, 3, 2, 1, 0}}, {deps(0, 1, 1, 2, 2, 4, 4, 8, 8, 16, 16, 32), 6, 0, []int{0, 1, 2, 3, 4, 5}},
	} {
		if got := impl.Derivation(c.fds, c.width, c.set); !equal(got, c.want) {
			t.Errorf("Derivation(%v, %d, %d) = %v, want %v", c.fds, c.width, c.set, got, c.want)
		}
	}
}

func TestP086ClosuresAreDerived(t *testing.T) {
	some := 0
	someDependencies(86, 800, func(m *maker, fds []impl.Dependency, width int) {
		for set := range 1 << width {
			steps := impl.Derivation(fds, width, set)
			if want := slowDerivation(fds, set); !equal(steps, want) {
				t.Fatalf("Derivation(%v, %d, %d) = %v, want %v", fds, width, set, steps, want)
			}
			if f := dep(set, impl.ClosureOf(fds, width, set)); !impl.CheckDerivation(fds, width, f, steps) {
				t.Fatalf("CheckDerivation(%v, %d, %v, %v) is false", fds, width, f, steps)
			}
			for i, n := range steps {
				if slices.Contains(steps[:i], n) {
					t.Fatalf("Derivation(%v, %d, %d) = %v", fds, width, set, steps)
				}
			}
			if len(steps) > 1 && !slices.IsSorted(steps) {
				some++
			}
		}
	})
	if some < 300 {
		t.Errorf("only %d derivations need several passes", some)
	}
}

func TestCheckDerivation(t *testing.T) {
	fds := deps(1, 2, 6, 8, 0, 4, 9, 16)
	for _, c := range []struct {
		f     impl.Dependency
		steps []int
		want  bool
	}{
		{dep(0, 0), nil, true}, {dep(31, 31), nil, true}, {dep(3, 1), nil, true}, {dep(0, 1), nil, false}, {dep(1, 2), nil, false}, {dep(1, 2), []int{}, false}, {dep(1, 2), []int{0}, true}, {dep(1, 3), []int{0}, true}, {dep(1, 6), []int{0}, false},
		{dep(0, 4), []int{2}, true}, {dep(1, 15), []int{0, 2, 1}, true}, {dep(1, 15), []int{2, 0, 1}, true}, {dep(1, 8), []int{0, 1, 2}, false}, {dep(1, 8), []int{1, 0, 2}, false}, {dep(1, 31), []int{0, 2, 1, 3}, true}, {dep(1, 31), []int{0, 2, 3, 1}, false}, {dep(1, 31), []int{0, 2, 1}, false},
		// Steps that add nothing, or are not needed, must be possible as well.
		{dep(1, 2), []int{0, 0, 0}, true}, {dep(1, 2), []int{2, 0}, true}, {dep(1, 2), []int{0, 2}, true}, {dep(1, 2), []int{0, 1}, false}, {dep(1, 2), []int{3, 0}, false}, {dep(31, 1), []int{0, 1, 2, 3}, true}, {dep(7, 0), []int{3}, false}, {dep(0, 0), []int{0}, false},
		// Indices that are not those of dependencies.
		{dep(1, 2), []int{4}, false}, {dep(1, 2), []int{-1}, false}, {dep(1, 2), []int{0, 4}, false}, {dep(1, 2), []int{0, -1}, false}, {dep(1, 2), []int{0, math.MaxInt}, false}, {dep(1, 2), []int{math.MinInt, 0}, false}, {dep(31, 31), []int{4}, false}, {dep(31, 31), []int{-1}, false},
	} {
		if got := impl.CheckDerivation(fds, 5, c.f, c.steps); got != c.want {
			t.Errorf("CheckDerivation(%v, 5, %v, %v) is %v", fds, c.f, c.steps, got)
		}
	}
	if impl.CheckDerivation(nil, 5, dep(1, 1), []int{0}) || !impl.CheckDerivation(nil, 5, dep(1, 1), nil) || impl.CheckDerivation(fds, 4, dep(1, 2), []int{0}) {
		t.Error("CheckDerivation without dependencies, or for a width that is too small")
	}
}

func TestCheckDerivationAllowsMaxStepsSteps(t *testing.T) {
	fds := deps(1, 2, 2, 4)
	for _, count := range []int{impl.MaxSteps - 1, impl.MaxSteps, impl.MaxSteps + 1, 1000} {
		steps := append(make([]int, count-1), 1)
		if got := impl.CheckDerivation(fds, 3, dep(1, 4), steps); got != (count <= impl.MaxSteps) {
			t.Errorf("CheckDerivation with %d steps is %v", count, got)
		}
		if got := impl.CheckDerivation(fds, 3, dep(7, 0), steps); got != (count <= impl.MaxSteps) {
			t.Errorf("CheckDerivation of a trivial dependency with %d steps is %v", count, got)
		}
	}
}

func TestP087DerivationsProveImplications(t *testing.T) {
	accepted, refused := 0, 0
	someDependencies(87, 1500, func(m *maker, fds []impl.Dependency, width int) {
		for range 20 {
			f := m.dependency(width)
			steps := impl.Derivation(fds, width, f.From)
			for range m.below(3) {
				steps = slices.Insert(steps, m.below(len(steps)+1), m.below(len(fds)+2)-1)
			}
			if len(steps) > 0 && m.below(3) == 0 {
				steps = steps[1:]
			}
			want, set := true, f.From
			for _, n := range steps {
				if want = want && n >= 0 && n < len(fds) && hasAll(set, fds[n].From); want {
					set |= fds[n].To
				}
			}
			want = want && hasAll(set, f.To)
			got := impl.CheckDerivation(fds, width, f, steps)
			if got != want || got && !impl.Implies(fds, width, f) {
				t.Fatalf("CheckDerivation(%v, %d, %v, %v) is %v", fds, width, f, steps, got)
			}
			if got && !hasAll(f.From, f.To) {
				accepted++
			}
			if !got && impl.Implies(fds, width, f) {
				refused++
			}
		}
	})
	if accepted < 500 || refused < 500 {
		t.Errorf("only %d derivations are accepted, only %d of implied dependencies are not", accepted, refused)
	}
}
