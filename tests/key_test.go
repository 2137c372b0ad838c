package tests

import (
	"slices"
	"testing"

	"loop.example/queryoptimizer/impl"
)

// pairsToBoth are dependencies from each pair of the first four columns to both other ones; none of them follows from others.
func pairsToBoth() []impl.Dependency {
	return deps(3, 48, 5, 48, 9, 48, 6, 48, 10, 48, 12, 48)
}

func TestIsKey(t *testing.T) {
	fds := deps(1, 2, 6, 8)
	for set := range 16 {
		if got := impl.IsKey(fds, 4, set); got != (hasAll(set, 5)) {
			t.Errorf("IsKey(%v, 4, %d) is %v", fds, set, got)
		}
	}
	for _, c := range []struct {
		fds   []impl.Dependency
		width int
		set   int
		want  bool
	}{
		{nil, 1, 0, false}, {nil, 1, 1, true}, {nil, 6, 63, true}, {nil, 6, 31, false}, {deps(0, 1), 1, 0, true}, {deps(0, 63), 6, 0, true}, {deps(0, 31), 6, 0, false}, {deps(0, 31), 6, 32, true}, {deps(63, 0), 6, 62, false},
	} {
		if got := impl.IsKey(c.fds, c.width, c.set); got != c.want {
			t.Errorf("IsKey(%v, %d, %d) is %v", c.fds, c.width, c.set, got)
		}
	}
}

func TestP088LargerSetsAreKeysAsWell(t *testing.T) {
	keys := 0
	someDependencies(88, 600, func(m *maker, fds []impl.Dependency, width int) {
		all := 1<<width - 1
		if !impl.IsKey(fds, width, all) {
			t.Fatalf("IsKey(%v, %d, %d) is false", fds, width, all)
		}
		for set := range 1 << width {
			got := impl.IsKey(fds, width, set)
			if got != (slowClosure(fds, width, set) == all) {
				t.Fatalf("IsKey(%v, %d, %d) is %v", fds, width, set, got)
			}
			if larger := set | m.below(1<<width); got && !impl.IsKey(fds, width, larger) {
				t.Fatalf("IsKey(%v, %d, %d) is true, but not for %d", fds, width, set, larger)
			}
			if got && set != all {
				keys++
			}
		}
	})
	if keys < 1000 {
		t.Errorf("only %d sets are keys", keys)
	}
}

func TestCandidateKeys(t *testing.T) {
	for _, c := range []struct {
		fds   []impl.Dependency
		width int
		want  []int
	}{
		{nil, 1, []int{1}}, {nil, 6, []int{63}}, {deps(0, 1), 1, []int{0}}, {deps(0, 63), 6, []int{0}}, {deps(0, 0, 3, 1), 2, []int{3}}, {deps(0, 2), 2, []int{1}}, {deps(63, 63), 6, []int{63}},
		{deps(1, 2), 3, []int{5}}, {deps(1, 2, 2, 1), 3, []int{5, 6}}, {deps(1, 2, 2, 4, 4, 1), 3, []int{1, 2, 4}}, {deps(4, 1, 2, 4, 1, 2), 3, []int{1, 2, 4}}, {deps(3, 4, 4, 1), 3, []int{3, 6}}, {deps(3, 4, 4, 3), 3, []int{3, 4}},
		{deps(1, 2, 2, 1, 4, 8, 8, 4, 16, 32, 32, 16), 6, []int{21, 22, 25, 26, 37, 38, 41, 42}}, {pairsToBoth(), 6, []int{15}}, {deps(7, 63, 56, 63, 9, 63), 6, []int{7, 9, 56}}, {slices.Repeat(deps(4, 3), impl.MaxDependencies), 3, []int{4}},
	} {
		if got := impl.CandidateKeys(c.fds, c.width); !equal(got, c.want) {
			t.Errorf("CandidateKeys(%v, %d) = %v, want %v", c.fds, c.width, got, c.want)
		}
	}
}

func TestP089EveryKeyContainsACandidateKey(t *testing.T) {
	several := 0
	someDependencies(89, 500, func(m *maker, fds []impl.Dependency, width int) {
		keys := impl.CandidateKeys(fds, width)
		if want := slowKeys(fds, width); !equal(keys, want) {
			t.Fatalf("CandidateKeys(%v, %d) = %v, want %v", fds, width, keys, want)
		}
		for i, key := range keys {
			if !impl.IsKey(fds, width, key) || i > 0 && keys[i-1] >= key || slices.ContainsFunc(keys, func(other int) bool { return other != key && hasAll(key, other) }) {
				t.Fatalf("CandidateKeys(%v, %d) = %v", fds, width, keys)
			}
		}
		for set := range 1 << width {
			if impl.IsKey(fds, width, set) != slices.ContainsFunc(keys, func(key int) bool { return hasAll(set, key) }) {
				t.Fatalf("CandidateKeys(%v, %d) = %v, but IsKey of %d is %v", fds, width, keys, set, impl.IsKey(fds, width, set))
			}
		}
		if len(keys) > 1 {
			several++
		}
	})
	if several < 80 {
		t.Errorf("only %d times there are several candidate keys", several)
	}
}

func TestMinimalCover(t *testing.T) {
	for _, c := range []struct {
		fds   []impl.Dependency
		width int
		want  []impl.Dependency
	}{
		// Columns of To that are in From, and empty sets.
		{nil, 1, nil}, {deps(0, 0), 1, nil}, {deps(1, 1, 1, 0), 1, nil}, {deps(3, 1), 2, nil}, {deps(63, 63), 6, nil}, {deps(1, 3), 2, deps(1, 2)}, {deps(0, 1), 1, deps(0, 1)}, {deps(2, 63), 6, deps(2, 1, 2, 4, 2, 8, 2, 16, 2, 32)},
		{deps(0, 63), 6, deps(0, 1, 0, 2, 0, 4, 0, 8, 0, 16, 0, 32)}, {deps(2, 1, 0, 1), 2, deps(0, 1)}, {deps(0, 1, 3, 4), 3, deps(0, 1, 2, 4)}, {deps(0, 1, 1, 2), 2, deps(0, 1, 0, 2)},
		// Dependencies that are given twice, or are a part of another one.
		{deps(1, 2, 1, 2), 2, deps(1, 2)}, {deps(1, 2, 4, 2, 1, 2), 3, deps(4, 2, 1, 2)}, {deps(1, 6, 1, 2), 3, deps(1, 4, 1, 2)}, {deps(1, 2, 5, 2), 3, deps(1, 2)}, {slices.Repeat(deps(1, 2), impl.MaxDependencies), 2, deps(1, 2)},
		// Columns of From that are superfluous by an earlier, by a later, or by the same dependency.
		{deps(1, 2, 3, 4), 3, deps(1, 2, 1, 4)}, {deps(3, 4, 1, 2), 3, deps(1, 4, 1, 2)}, {deps(7, 8, 1, 2, 2, 4), 4, deps(1, 8, 1, 2, 2, 4)}, {deps(3, 4, 2, 4), 3, deps(2, 4)}, {deps(3, 4, 1, 4), 3, deps(1, 4)}, {deps(7, 8, 2, 8), 4, deps(2, 8)},
		// Each of two columns is superfluous, but not both.
		{deps(3, 4, 1, 2, 2, 1), 3, deps(2, 4, 1, 2, 2, 1)}, {deps(7, 8, 4, 1, 1, 4), 4, deps(6, 8, 4, 1, 1, 4)}, {deps(7, 8, 1, 2, 2, 4, 4, 1), 4, deps(4, 8, 1, 2, 2, 4, 4, 1)},
		// Each of two dependencies follows from the other and the remaining ones: the first one is removed.
		{deps(1, 2, 2, 1, 1, 4, 2, 4), 3, deps(1, 2, 2, 1, 2, 4)}, {deps(2, 4, 1, 4, 2, 1, 1, 2), 3, deps(1, 4, 2, 1, 1, 2)}, {deps(1, 4, 1, 2, 2, 4, 4, 2), 3, deps(1, 2, 2, 4, 4, 2)}, {deps(1, 6, 6, 1, 2, 4, 4, 2), 3, deps(1, 4, 4, 1, 2, 4, 4, 2)},
		// Those that follow from several others, and a cycle.
		{deps(1, 4, 1, 2, 2, 4), 3, deps(1, 2, 2, 4)}, {deps(1, 2, 2, 4, 1, 4), 3, deps(1, 2, 2, 4)}, {deps(1, 6, 2, 5, 4, 3), 3, deps(1, 4, 2, 4, 4, 1, 4, 2)}, {deps(1, 2, 2, 4, 4, 8, 8, 16, 16, 32, 32, 1, 1, 32, 32, 16), 6, deps(1, 2, 2, 4, 4, 8, 8, 16, 16, 32, 32, 1)},
	} {
		got := impl.MinimalCover(c.fds, c.width)
		if !equal(got, c.want) {
			t.Errorf("MinimalCover(%v, %d) = %v, want %v", c.fds, c.width, got, c.want)
		}
		if want := slowCover(c.fds, c.width); !equal(got, want) {
			t.Errorf("MinimalCover(%v, %d) = %v, by the words of the document %v", c.fds, c.width, got, want)
		}
	}
}

func TestMinimalCoverMayHaveMoreThanMaxDependencies(t *testing.T) {
	fds := pairsToBoth()
	var want []impl.Dependency
	for _, f := range fds {
		want = append(want, dep(f.From, 16), dep(f.From, 32))
	}
	if got := impl.MinimalCover(fds, 6); !equal(got, want) {
		t.Errorf("MinimalCover(%v, 6) = %v, want %v", fds, got, want)
	}
	// 48 dependencies on the way.
	if got := impl.MinimalCover(slices.Repeat(deps(0, 63), impl.MaxDependencies), 6); !equal(got, deps(0, 1, 0, 2, 0, 4, 0, 8, 0, 16, 0, 32)) {
		t.Errorf("MinimalCover of MaxDependencies equal dependencies = %v", got)
	}
}

func TestCoversAndKeysOfInvalidDependencies(t *testing.T) {
	check := func(fds []impl.Dependency, width int) {
		t.Helper()
		if keys, cover := impl.CandidateKeys(fds, width), impl.MinimalCover(fds, width); keys != nil || cover != nil {
			t.Errorf("CandidateKeys(%v, %d) = %v, MinimalCover = %v", fds, width, keys, cover)
		}
		if impl.IsNormalForm(fds, width) {
			t.Errorf("IsNormalForm(%v, %d) is true", fds, width)
		}
	}
	for width := 1; width <= impl.MaxWidth; width++ {
		for _, fds := range invalidDependencies(width) {
			check(fds, width)
		}
	}
	for _, width := range wrongWidths() {
		check(nil, width)
		check(deps(0, 0), width)
		check(deps(1, 2), width)
	}
}

func TestP090ACoverIsEquivalent(t *testing.T) {
	smaller, large := 0, 0
	someDependencies(90, 2000, func(m *maker, fds []impl.Dependency, width int) {
		cover := impl.MinimalCover(fds, width)
		if want := slowCover(fds, width); !equal(cover, want) {
			t.Fatalf("MinimalCover(%v, %d) = %v, want %v", fds, width, cover, want)
		}
		for _, f := range cover {
			if !impl.Implies(fds, width, f) || len(subset(f.To)) != 1 || hasAll(f.From, f.To) {
				t.Fatalf("MinimalCover(%v, %d) = %v", fds, width, cover)
			}
		}
		for _, f := range fds {
			if !follows(cover, width, f) || len(cover) <= impl.MaxDependencies && !impl.Implies(cover, width, f) {
				t.Fatalf("%v does not follow from MinimalCover(%v, %d) = %v", f, fds, width, cover)
			}
		}
		if len(cover) > 1 && len(cover) < len(fds) {
			smaller++
		}
		if len(cover) > impl.MaxDependencies {
			large++
		}
	})
	if smaller < 300 || large < 5 {
		t.Errorf("only %d covers have fewer dependencies, only %d more than MaxDependencies", smaller, large)
	}
}

func TestP091NoDependencyOfACoverIsSuperfluous(t *testing.T) {
	several := 0
	someDependencies(91, 2500, func(m *maker, fds []impl.Dependency, width int) {
		cover := impl.MinimalCover(fds, width)
		for i, f := range cover {
			others := slices.Delete(slices.Clone(cover), i, i+1)
			if follows(others, width, f) || impl.Implies(others, width, f) {
				t.Fatalf("MinimalCover(%v, %d) = %v, where %v is superfluous", fds, width, cover, f)
			}
			// No column of From is superfluous, either.
			for _, c := range subset(f.From) {
				if follows(cover, width, dep(f.From-1<<c, f.To)) {
					t.Fatalf("MinimalCover(%v, %d) = %v, where column %d of %v is superfluous", fds, width, cover, c, f)
				}
			}
		}
		if !impl.ValidDependencies(cover, width) {
			return
		}
		if again := impl.MinimalCover(cover, width); !equal(again, cover) {
			t.Fatalf("MinimalCover(%v, %d) = %v, and of this %v", fds, width, cover, again)
		}
		if len(cover) > 2 {
			several++
		}
	})
	if several < 500 {
		t.Errorf("only %d covers have several dependencies", several)
	}
}

func TestIsNormalForm(t *testing.T) {
	for _, c := range []struct {
		fds   []impl.Dependency
		width int
		want  bool
	}{
		{nil, 1, true}, {nil, 6, true}, {deps(0, 0), 3, true}, {deps(3, 1, 5, 5, 7, 0), 3, true}, {deps(0, 1), 1, true}, {deps(0, 1), 2, false}, {deps(0, 3), 2, true}, {deps(7, 7), 3, true},
		{deps(1, 2), 2, true}, {deps(1, 2), 3, false}, {deps(1, 6), 3, true}, {deps(1, 2, 2, 4), 3, false}, {deps(1, 2, 2, 4, 4, 1), 3, true}, {deps(2, 4, 1, 2), 3, false}, {deps(3, 4, 4, 1), 3, false}, {deps(3, 4, 4, 3), 3, true},
		// Only From of dependencies that are not trivial matters, and only a part of To may be new.
		{deps(1, 6, 2, 2), 3, true}, {deps(1, 6, 2, 0), 3, true}, {deps(1, 6, 0, 0), 3, true}, {deps(1, 6, 6, 5), 3, true}, {deps(1, 6, 6, 6), 3, true}, {deps(1, 6, 2, 6), 3, false}, {deps(1, 6, 3, 2), 3, true}, {deps(1, 2, 1, 4), 3, true}, {deps(1, 7), 4, false},
	} {
		if got := impl.IsNormalForm(c.fds, c.width); got != c.want {
			t.Errorf("IsNormalForm(%v, %d) is %v", c.fds, c.width, got)
		}
	}
}

func TestP092NormalFormsHaveOnlyKeysOnTheLeft(t *testing.T) {
	normal, other := 0, 0
	someDependencies(92, 3000, func(m *maker, fds []impl.Dependency, width int) {
		fds = fds[:min(len(fds), 1+m.below(3))]
		want, trivial := true, true
		for _, f := range fds {
			if !hasAll(f.From, f.To) {
				want, trivial = want && impl.IsKey(fds, width, f.From), false
			}
		}
		if got := impl.IsNormalForm(fds, width); got != want {
			t.Fatalf("IsNormalForm(%v, %d) is %v", fds, width, got)
		}
		if want && !trivial {
			normal++
		}
		if !want {
			other++
		}
	})
	if normal < 300 || other < 300 {
		t.Errorf("only %d are in normal form, only %d are not", normal, other)
	}
}
