package tests

import (
	"math"
	"slices"

	"loop.example/queryoptimizer/impl"
)

// dep returns a dependency between two sets of columns.
func dep(from int, to int) impl.Dependency {
	return impl.Dependency{From: from, To: to}
}

// deps returns dependencies, given From and To of each one after the other.
func deps(sets ...int) []impl.Dependency {
	var list []impl.Dependency
	for i := 0; i < len(sets); i += 2 {
		list = append(list, dep(sets[i], sets[i+1]))
	}
	return list
}

// wrongWidths returns numbers that are no widths.
func wrongWidths() []int {
	return []int{0, -1, -64, impl.MaxWidth + 1, 63, 64, math.MaxInt, math.MinInt}
}

// wrongSets returns numbers that are no sets of columns of a width.
func wrongSets(width int) []int {
	return []int{-1, -2, 1 << width, 1<<width + 1, 3 << width, 1 << impl.MaxWidth, 1 << 62, math.MaxInt, math.MinInt, math.MinInt + 1}
}

// wrongDependencies returns dependencies that have a set that is none of a width.
func wrongDependencies(width int) []impl.Dependency {
	var list []impl.Dependency
	for _, set := range wrongSets(width) {
		list = append(list, dep(set, 0), dep(0, set), dep(set, 1), dep(1, set), dep(set, set))
	}
	return list
}

// invalidDependencies returns lists of dependencies that are not valid for a width.
func invalidDependencies(width int) [][]impl.Dependency {
	list := [][]impl.Dependency{slices.Repeat(deps(0, 1), impl.MaxDependencies+1), slices.Repeat(deps(1, 0), impl.MaxDependencies+1), make([]impl.Dependency, 1000)}
	for _, f := range wrongDependencies(width) {
		list = append(list, []impl.Dependency{f}, append(slices.Repeat(deps(0, 1), impl.MaxDependencies-1), f), append([]impl.Dependency{f}, deps(0, 1, 1, 0)...))
	}
	return list
}

// dependency returns a dependency, mostly of one column or a few ones.
func (m *maker) dependency(width int) impl.Dependency {
	all := 1<<width - 1
	sets := [2]int{}
	for i := range sets {
		switch m.below(10) {
		case 0:
			sets[i] = []int{0, all}[m.below(2)]
		case 1, 2:
			sets[i] = m.below(1 << width)
		case 3, 4, 5:
			sets[i] = 1<<m.below(width) | 1<<m.below(width)
		default:
			sets[i] = 1 << m.below(width)
		}
	}
	return dep(sets[0], sets[1])
}

// dependencies returns at most MaxDependencies dependencies, some of which occur twice.
func (m *maker) dependencies(width int) []impl.Dependency {
	var list []impl.Dependency
	for range m.below(impl.MaxDependencies + 1) {
		if len(list) > 0 && m.below(10) == 0 {
			list = append(list, list[m.below(len(list))])
		} else {
			list = append(list, m.dependency(width))
		}
	}
	return list
}

// pairDependencies returns MaxDependencies dependencies of MaxWidth columns, from pairs of the first columns to one or both of the last ones; few of them follow from others.
func (m *maker) pairDependencies() []impl.Dependency {
	var list []impl.Dependency
	for range impl.MaxDependencies {
		first, second := m.below(4), m.below(3)
		if second >= first {
			second++
		}
		list = append(list, dep(1<<first|1<<second, (m.below(3)+1)<<4))
	}
	return list
}

// someDependencies yields dependencies of all widths.
func someDependencies(seed uint64, count int, check func(m *maker, fds []impl.Dependency, width int)) {
	m := &maker{state: seed}
	for range count {
		if m.below(8) == 0 {
			check(m, m.pairDependencies(), impl.MaxWidth)
			continue
		}
		width := 1 + m.below(impl.MaxWidth)
		check(m, m.dependencies(width), width)
	}
}

// hasAll reports whether a set has all elements of another one.
func hasAll(set int, other int) bool {
	return set&other == other
}

// slowClosure returns the smallest set that contains a set and, with From of a dependency, its To.
func slowClosure(fds []impl.Dependency, width int, set int) int {
	smallest := 1<<width - 1
	for s := range 1 << width {
		closed := !slices.ContainsFunc(fds, func(f impl.Dependency) bool { return hasAll(s, f.From) && !hasAll(s, f.To) })
		if closed && hasAll(s, set) {
			smallest &= s
		}
	}
	return smallest
}

// follows reports whether a dependency follows from others.
func follows(fds []impl.Dependency, width int, f impl.Dependency) bool {
	return hasAll(slowClosure(fds, width, f.From), f.To)
}

// slowDerivation returns the steps of a derivation by the words of the document.
func slowDerivation(fds []impl.Dependency, set int) []int {
	var steps []int
	for changed := true; changed; {
		changed = false
		for i, f := range fds {
			if hasAll(set, f.From) && !hasAll(set, f.To) {
				set |= f.To
				steps = append(steps, i)
				changed = true
			}
		}
	}
	return steps
}

// slowHolds reports whether a dependency holds for any two rows.
func slowHolds(f impl.Dependency, list [][]impl.Value) bool {
	for _, a := range list {
		for _, b := range list {
			if agree(a, b, f.From) && !agree(a, b, f.To) {
				return false
			}
		}
	}
	return true
}

// agree reports whether two rows have the same values in a set of columns.
func agree(a []impl.Value, b []impl.Value, set int) bool {
	for _, c := range subset(set) {
		if a[c] != b[c] {
			return false
		}
	}
	return true
}

// slowKeys returns the sets that determine all columns, none of whose proper subsets does.
func slowKeys(fds []impl.Dependency, width int) []int {
	all := 1<<width - 1
	var keys []int
	for set := range 1 << width {
		minimal := slowClosure(fds, width, set) == all
		for smaller := range set {
			minimal = minimal && (!hasAll(set, smaller) || slowClosure(fds, width, smaller) != all)
		}
		if minimal {
			keys = append(keys, set)
		}
	}
	return keys
}

// slowCover returns the minimal cover by the words of the document.
func slowCover(fds []impl.Dependency, width int) []impl.Dependency {
	var cover []impl.Dependency
	for _, f := range fds {
		for _, c := range subset(f.To) {
			if !hasAll(f.From, 1<<c) {
				cover = append(cover, dep(f.From, 1<<c))
			}
		}
	}
	for i := range cover {
		for _, c := range subset(cover[i].From) {
			if less := dep(cover[i].From-1<<c, cover[i].To); follows(cover, width, less) {
				cover[i] = less
			}
		}
	}
	for i := 0; i < len(cover); {
		others := slices.Delete(slices.Clone(cover), i, i+1)
		if follows(others, width, cover[i]) {
			cover = others
		} else {
			i++
		}
	}
	return cover
}
