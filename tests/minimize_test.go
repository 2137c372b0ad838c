package tests

import (
	"math"
	"slices"
	"testing"

	"loop.example/queryoptimizer/impl"
)

// triangle is a query whose three variables are pairs with each other.
func triangle() impl.Rule {
	return query(3, nil, atom(0, 0, 1), atom(0, 1, 2), atom(0, 2, 0))
}

// identity returns the mapping of variables to themselves.
func identity(vars int) []int {
	var m []int
	for n := range vars {
		m = append(m, n)
	}
	return m
}

// relatedQueries yields pairs of queries with heads of the same length, many of which are contained in each other.
func relatedQueries(seed uint64, count int, check func(a impl.Rule, b impl.Rule)) {
	m := &maker{state: seed}
	for i := range count {
		head := m.below(3)
		a, b := m.query(head), m.query(head)
		if i%3 == 0 {
			// The same query with other variables and fewer atoms, if it remains valid.
			b = impl.Rule{Vars: impl.MaxVars}
			move := func(n int) int { return (n + i) % impl.MaxVars }
			for _, x := range a.Body {
				b.Body = append(b.Body, atom(x.Rel, move(x.X), move(x.Y)))
			}
			for _, n := range a.Head {
				b.Head = append(b.Head, move(n))
			}
			if less := without(b, m.below(len(b.Body))); impl.ValidRule(less) {
				b = less
			}
		}
		check(a, b)
		check(b, a)
	}
}

func TestCheckHomomorphism(t *testing.T) {
	path := query(3, []int{0, 2}, atom(0, 0, 1), atom(0, 1, 2))
	loop := query(2, []int{1, 1}, atom(0, 1, 1), atom(1, 0, 1))
	square := query(4, []int{0, 2}, atom(0, 0, 1), atom(0, 1, 2), atom(0, 0, 3), atom(0, 3, 2))
	spare := query(4, []int{2}, atom(2, 2, 2))
	for _, c := range []struct {
		from, to impl.Rule
		m        []int
		want     bool
	}{
		{path, path, []int{0, 1, 2}, true}, {path, path, []int{1, 1, 2}, false}, {path, path, []int{2, 1, 0}, false}, {path, loop, []int{1, 1, 1}, true}, {path, loop, []int{1, 0, 1}, false}, {path, loop, []int{0, 1, 1}, false}, {loop, path, []int{0, 0}, false}, {loop, path, []int{1, 1}, false},
		{square, path, []int{0, 1, 2, 1}, true}, {path, square, []int{0, 3, 2}, true}, {path, square, []int{0, 1, 2}, true}, {path, square, []int{0, 2, 2}, false}, {square, path, []int{0, 1, 2, 2}, false}, {square, square, []int{0, 3, 2, 1}, true}, {square, square, []int{0, 3, 2, 3}, true},
		// The head is mapped, but not to the other head; and the other way round.
		{query(2, []int{0}, atom(0, 0, 1)), query(2, []int{1}, atom(0, 0, 1)), []int{0, 1}, false}, {query(2, []int{0}, atom(0, 0, 1)), query(2, []int{0}, atom(0, 0, 1)), []int{0, 1}, true}, {query(2, []int{0, 1}, atom(0, 0, 1)), query(2, []int{1, 0}, atom(0, 0, 1)), []int{0, 1}, false}, {query(2, []int{0, 1}, atom(0, 0, 1)), query(2, []int{1, 0}, atom(0, 0, 1)), []int{1, 0}, false},
		{query(2, []int{0, 1}, atom(0, 0, 1)), query(2, []int{1, 0}, atom(0, 1, 0)), []int{1, 0}, true}, {query(2, []int{0, 1}, atom(0, 0, 1)), query(1, []int{0, 0}, atom(0, 0, 0)), []int{0, 0}, true}, {query(1, []int{0, 0}, atom(0, 0, 0)), query(2, []int{0, 1}, atom(0, 0, 0), atom(0, 1, 1)), []int{0}, false},
		// Heads of other lengths, where one is the beginning of the other.
		{query(1, nil, atom(0, 0, 0)), query(1, []int{0}, atom(0, 0, 0)), []int{0}, false}, {query(1, []int{0}, atom(0, 0, 0)), query(1, nil, atom(0, 0, 0)), []int{0}, false}, {query(1, []int{0}, atom(0, 0, 0)), query(1, []int{0, 0}, atom(0, 0, 0)), []int{0}, false},
		// Another relation.
		{query(2, nil, atom(0, 0, 1)), query(2, nil, atom(1, 0, 1)), []int{0, 1}, false}, {query(2, nil, atom(3, 0, 1)), query(2, nil, atom(2, 0, 1), atom(3, 1, 1)), []int{0, 1}, false}, {query(2, nil, atom(3, 0, 1)), query(2, nil, atom(2, 0, 1), atom(3, 1, 1)), []int{1, 1}, true},
		// Variables that occur in no atom are mapped to any variable, also to one that occurs in none.
		{spare, spare, []int{0, 1, 2, 3}, true}, {spare, spare, []int{3, 3, 2, 0}, true}, {spare, spare, []int{3, 3, 2, 4}, false}, {spare, spare, []int{-1, 3, 2, 3}, false}, {spare, query(1, []int{0}, atom(2, 0, 0)), []int{0, 0, 0, 0}, true}, {spare, query(1, []int{0}, atom(2, 0, 0)), []int{0, 1, 0, 0}, false}, {query(1, []int{0}, atom(2, 0, 0)), spare, []int{2}, true}, {query(1, []int{0}, atom(2, 0, 0)), spare, []int{0}, false},
	} {
		if got := impl.CheckHomomorphism(c.from, c.to, c.m); got != c.want {
			t.Errorf("CheckHomomorphism(%v, %v, %v) is %v", c.from, c.to, c.m, got)
		}
	}
}

func TestInvalidMappingsAreNotAccepted(t *testing.T) {
	q := query(2, []int{0}, atom(0, 0, 1))
	loops := query(3, []int{0}, atom(0, 0, 0), atom(0, 0, 1), atom(0, 0, 2))
	for _, m := range [][]int{nil, {}, {0}, {0, 0, 0}, {0, 1, 2}, {0, -1}, {-1, 0}, {0, 3}, {3, 0}, {0, math.MaxInt}, {0, math.MinInt}, {math.MinInt, math.MinInt}, make([]int, 100)} {
		if impl.CheckHomomorphism(q, loops, m) {
			t.Errorf("CheckHomomorphism accepts %v", m)
		}
	}
	for _, m := range [][]int{{0, 0}, {0, 1}, {0, 2}} {
		if !impl.CheckHomomorphism(q, loops, m) {
			t.Errorf("CheckHomomorphism does not accept %v", m)
		}
	}
}

func TestInvalidQueriesHaveNoHomomorphisms(t *testing.T) {
	for _, bad := range invalidQueries() {
		for _, pair := range [][2]impl.Rule{{bad, bad}, {bad, query(1, nil, atom(0, 0, 0))}, {query(1, nil, atom(0, 0, 0)), bad}, {query(2, []int{0}, atom(0, 0, 1)), bad}, {bad, query(2, []int{0}, atom(0, 0, 1))}} {
			for _, m := range [][]int{nil, {0}, {0, 0}, {0, 1}, {0, 0, 0}, identity(6), identity(7)} {
				if impl.CheckHomomorphism(pair[0], pair[1], m) {
					t.Errorf("CheckHomomorphism(%v, %v, %v) is true", pair[0], pair[1], m)
				}
			}
			if m, ok := impl.FindHomomorphism(pair[0], pair[1]); m != nil || ok {
				t.Errorf("FindHomomorphism(%v, %v) = %v, %v", pair[0], pair[1], m, ok)
			}
			if impl.IsContained(pair[0], pair[1]) {
				t.Errorf("IsContained(%v, %v) is true", pair[0], pair[1])
			}
		}
		if got := impl.Minimize(bad); !equal(got, impl.Rule{}) || impl.IsMinimal(bad) {
			t.Errorf("Minimize(%v) = %v, IsMinimal is %v", bad, got, impl.IsMinimal(bad))
		}
	}
}

func TestFindHomomorphism(t *testing.T) {
	pair := func(head ...int) impl.Rule { return query(2, head, atom(0, 0, 1)) }
	// The atoms in order are 0 1, 0 2, 1 2 and 2 3; they are given in another order.
	mixed := query(4, nil, atom(0, 2, 3), atom(0, 1, 2), atom(0, 0, 2), atom(0, 0, 1))
	for _, c := range []struct {
		from, to impl.Rule
		want     []int
	}{
		// The first fact of Freeze, which is not the first atom.
		{pair(), mixed, []int{0, 1}}, {query(3, nil, atom(0, 2, 1)), mixed, []int{0, 1, 0}}, {query(4, nil, atom(0, 0, 1), atom(0, 2, 3)), mixed, []int{0, 1, 0, 1}},
		// The first fact leads to no homomorphism, a later one does.
		{query(4, nil, atom(0, 0, 1), atom(0, 1, 2), atom(0, 2, 3)), mixed, []int{0, 1, 2, 3}}, {query(4, nil, atom(0, 2, 3), atom(0, 0, 1), atom(0, 1, 2)), mixed, []int{0, 1, 2, 3}}, {query(3, nil, atom(0, 0, 1), atom(0, 1, 2), atom(0, 0, 2)), mixed, []int{0, 1, 2}},
		{query(3, nil, atom(0, 0, 2), atom(0, 0, 1), atom(0, 1, 2)), mixed, []int{0, 1, 2}}, {query(4, nil, atom(0, 0, 1), atom(0, 2, 1), atom(0, 1, 3)), query(5, nil, atom(0, 0, 1), atom(0, 2, 3), atom(0, 3, 4)), []int{2, 3, 2, 4}}, {query(2, nil, atom(0, 0, 1), atom(1, 0, 0)), query(3, nil, atom(0, 0, 1), atom(0, 0, 2), atom(0, 2, 0), atom(0, 2, 1), atom(1, 2, 2)), []int{2, 0}},
		// The head decides before the facts do.
		{pair(0), query(4, []int{2}, mixed.Body...), []int{2, 3}}, {pair(1), query(4, []int{2}, mixed.Body...), []int{0, 2}}, {pair(1), query(4, []int{3}, mixed.Body...), []int{2, 3}}, {pair(1, 0), query(4, []int{2, 1}, mixed.Body...), []int{1, 2}}, {pair(1, 0), query(4, []int{1, 2}, mixed.Body...), nil}, {pair(0), query(4, []int{3}, mixed.Body...), nil},
		// Heads that repeat a variable.
		{pair(0, 0), query(4, []int{1, 1}, mixed.Body...), []int{1, 2}}, {pair(0, 0), query(4, []int{1, 2}, mixed.Body...), nil}, {pair(0, 1), query(4, []int{1, 1}, mixed.Body...), nil}, {pair(0, 1, 0), query(1, []int{0, 0, 0}, atom(0, 0, 0)), []int{0, 0}}, {pair(0, 1, 0), query(4, []int{1, 2, 1}, mixed.Body...), []int{1, 2}}, {pair(0, 1, 0), query(4, []int{1, 2, 2}, mixed.Body...), nil},
		// Heads of other lengths.
		{pair(), query(4, []int{0}, mixed.Body...), nil}, {pair(0), mixed, nil}, {pair(0), query(4, []int{0, 1}, mixed.Body...), nil}, {pair(0, 1), query(4, []int{0}, mixed.Body...), nil},
		// Variables that occur in no atom are mapped to 0, also if 0 occurs in no atom.
		{query(6, []int{4}, atom(3, 4, 2)), query(6, []int{5}, atom(3, 5, 3)), []int{0, 0, 3, 0, 5, 0}}, {query(3, []int{1}, atom(0, 1, 1)), query(2, []int{1}, atom(0, 1, 1)), []int{0, 1, 0}}, {query(6, nil, atom(0, 5, 5)), query(1, nil, atom(0, 0, 0)), []int{0, 0, 0, 0, 0, 0}},
		// Atoms that occur twice.
		{query(2, nil, atom(0, 0, 1), atom(0, 0, 1)), pair(), []int{0, 1}}, {pair(), query(3, nil, atom(0, 2, 1), atom(0, 2, 1)), []int{2, 1}},
		{triangle(), query(1, nil, atom(0, 0, 0)), []int{0, 0, 0}}, {triangle(), query(2, nil, atom(0, 0, 1), atom(0, 1, 0)), nil}, {query(6, nil, atom(0, 0, 1), atom(0, 1, 2), atom(0, 2, 3), atom(0, 3, 4), atom(0, 4, 5), atom(0, 5, 0)), triangle(), []int{0, 1, 2, 0, 1, 2}}, {triangle(), triangle(), []int{0, 1, 2}},
		{pair(), query(2, nil, atom(1, 0, 1)), nil}, {query(1, nil, atom(0, 0, 0)), pair(), nil},
	} {
		m, ok := impl.FindHomomorphism(c.from, c.to)
		if ok != (c.want != nil) || !slices.Equal(m, c.want) || !ok && m != nil {
			t.Errorf("FindHomomorphism(%v, %v) = %v, %v, want %v", c.from, c.to, m, ok, c.want)
		}
		if got := impl.IsContained(c.to, c.from); got != ok {
			t.Errorf("IsContained(%v, %v) is %v", c.to, c.from, got)
		}
	}
}

func TestP075HomomorphismsAreFoundAndChecked(t *testing.T) {
	found, missing := 0, 0
	relatedQueries(75, 400, func(a impl.Rule, b impl.Rule) {
		m, ok := impl.FindHomomorphism(a, b)
		want, exists := slowHomomorphism(a, b)
		if ok != exists || !slices.Equal(m, want) {
			t.Fatalf("FindHomomorphism(%v, %v) = %v, %v, want %v", a, b, m, ok, want)
		}
		if ok && !impl.CheckHomomorphism(a, b, m) {
			t.Fatalf("CheckHomomorphism(%v, %v, %v) is false", a, b, m)
		}
		if impl.IsContained(b, a) != ok {
			t.Fatalf("IsContained(%v, %v) is %v", b, a, !ok)
		}
		if ok {
			found++
		} else {
			missing++
		}
	})
	if found < 200 || missing < 200 {
		t.Errorf("%d homomorphisms are found, %d are not", found, missing)
	}
}

func TestP075TheFirstPossibleFactMayBeALaterOne(t *testing.T) {
	m := &maker{state: 751}
	later := 0
	for range 500 {
		// A walk through the variables, and a query of several atoms.
		from, to := query(4, nil), query(5, nil)
		for n := range 3 {
			from.Body = append(from.Body, []impl.Atom{atom(0, n, n+1), atom(0, n+1, n)}[m.below(2)])
		}
		for range impl.MaxAtoms {
			to.Body = append(to.Body, atom(0, m.below(5), m.below(5)))
		}
		h, ok := impl.FindHomomorphism(from, to)
		want, exists := slowHomomorphism(from, to)
		if ok != exists || !slices.Equal(h, want) {
			t.Fatalf("FindHomomorphism(%v, %v) = %v, %v, want %v", from, to, h, ok, want)
		}
		if !ok {
			continue
		}
		if first, f := from.Body[0], asFacts(to)[0]; h[first.X] != f.X || h[first.Y] != f.Y {
			later++
		}
	}
	if later < 50 {
		t.Errorf("only %d homomorphisms map the first atom to a later fact than the first one", later)
	}
}

func TestP076AcceptedMappingsAreHomomorphisms(t *testing.T) {
	m := &maker{state: 76}
	accepted := 0
	relatedQueries(76, 60, func(a impl.Rule, b impl.Rule) {
		for _, list := range tuples(a.Vars, b.Vars) {
			got := impl.CheckHomomorphism(a, b, list)
			if got != isHomomorphism(a, b, list) {
				t.Fatalf("CheckHomomorphism(%v, %v, %v) is %v", a, b, list, got)
			}
			if !got {
				continue
			}
			accepted++
			if _, ok := impl.FindHomomorphism(a, b); !ok {
				t.Fatalf("CheckHomomorphism(%v, %v, %v) is true, but FindHomomorphism fails", a, b, list)
			}
		}
	})
	if accepted < 100 {
		t.Errorf("only %d mappings are accepted", accepted)
	}
	list := validQueries()
	for range 500 {
		list = append(list, m.query(m.below(impl.MaxWidth+1)))
	}
	for _, q := range list {
		if !impl.CheckHomomorphism(q, q, identity(q.Vars)) {
			t.Fatalf("CheckHomomorphism of %v and itself does not accept the identity", q)
		}
		if impl.CheckHomomorphism(q, q, identity(q.Vars+1)) || impl.CheckHomomorphism(q, q, identity(q.Vars-1)) {
			t.Fatalf("CheckHomomorphism of %v and itself accepts mappings of other lengths", q)
		}
	}
}

func TestP077ContainmentIsSound(t *testing.T) {
	m := &maker{state: 77}
	contained := 0
	relatedQueries(77, 600, func(a impl.Rule, b impl.Rule) {
		if !impl.IsContained(a, b) {
			return
		}
		for range 5 {
			facts := m.facts(14)
			first, second := impl.Answers(a, facts), impl.Answers(b, facts)
			if !containsAll(second, first) {
				t.Fatalf("IsContained(%v, %v), but for %v the answers are %v and %v", a, b, facts, first, second)
			}
			if len(first) > 0 {
				contained++
			}
		}
	})
	if contained < 300 {
		t.Errorf("only %d contained queries have answers", contained)
	}
}

func TestP078ContainmentIsComplete(t *testing.T) {
	other := 0
	relatedQueries(78, 600, func(a impl.Rule, b impl.Rule) {
		facts := impl.Freeze(a)
		if !hasAnswer(impl.Answers(a, facts), a.Head) {
			t.Fatalf("Answers(%v, %v) does not have the head", a, facts)
		}
		if got := hasAnswer(impl.Answers(b, facts), a.Head); got != impl.IsContained(a, b) {
			t.Fatalf("IsContained(%v, %v) is %v, but the head of the first one is an answer of the second one: %v", a, b, !got, got)
		} else if !got {
			other++
		}
	})
	if other < 300 {
		t.Errorf("only %d queries are not contained", other)
	}
}

func TestP079ContainmentIsReflexiveAndTransitive(t *testing.T) {
	m := &maker{state: 79}
	for _, q := range validQueries() {
		if !impl.IsContained(q, q) {
			t.Errorf("IsContained(%v) in itself is false", q)
		}
	}
	for range 600 {
		q := m.query(m.below(3))
		if !impl.IsContained(q, q) {
			t.Fatalf("IsContained(%v) in itself is false", q)
		}
		for n := range q.Body {
			if less := without(q, n); impl.ValidRule(less) && !impl.IsContained(q, less) {
				t.Fatalf("IsContained(%v, %v) is false", q, less)
			}
		}
	}
	chains := 0
	for head := range 3 {
		var list []impl.Rule
		for range 40 {
			list = append(list, m.query(head))
		}
		for _, a := range list {
			for _, b := range list {
				for _, c := range list {
					if !impl.IsContained(a, b) || !impl.IsContained(b, c) {
						continue
					}
					chains++
					if !impl.IsContained(a, c) {
						t.Fatalf("IsContained is not transitive for %v, %v and %v", a, b, c)
					}
				}
			}
		}
	}
	if chains < 1000 {
		t.Errorf("only %d queries are contained in one that is contained in another one", chains)
	}
}

func TestMinimize(t *testing.T) {
	for _, c := range []struct {
		q    impl.Rule
		keep []int
	}{
		{query(1, nil, atom(0, 0, 0)), []int{0}}, {query(6, []int{5, 5}, atom(3, 5, 4)), []int{0}}, {query(3, []int{0, 2}, atom(0, 0, 1), atom(0, 1, 2)), []int{0, 1}}, {triangle(), []int{0, 1, 2}},
		// Atoms that occur twice: the first of them is removed.
		{query(2, []int{0, 1}, atom(0, 0, 1), atom(0, 0, 1)), []int{1}}, {query(2, []int{0, 1}, atom(0, 0, 1), atom(0, 1, 0), atom(0, 0, 1)), []int{1, 2}}, {query(2, nil, slices.Repeat([]impl.Atom{atom(0, 0, 1)}, impl.MaxAtoms)...), []int{5}},
		// Each of two atoms is redundant only until the other one is removed.
		{query(3, []int{0}, atom(0, 0, 1), atom(0, 0, 2)), []int{1}}, {query(4, nil, atom(0, 0, 1), atom(0, 2, 3)), []int{1}}, {query(4, []int{0, 3}, atom(0, 0, 1), atom(0, 0, 2), atom(1, 3, 3)), []int{1, 2}}, {query(4, []int{0}, atom(0, 0, 1), atom(0, 0, 2), atom(0, 2, 3)), []int{1, 2}}, {query(4, []int{0}, atom(0, 2, 3), atom(0, 0, 1), atom(0, 0, 2)), []int{0, 2}},
		// An atom is not redundant if a variable of the head occurs in no other one, or if the head fixes its variables.
		{query(3, []int{1, 2}, atom(0, 0, 1), atom(0, 0, 2)), []int{0, 1}}, {query(3, []int{0, 1}, atom(0, 0, 1), atom(0, 0, 2)), []int{0}}, {query(3, []int{0, 2}, atom(0, 0, 1), atom(0, 0, 2)), []int{1}}, {query(4, []int{0, 1, 2, 3}, atom(0, 0, 1), atom(0, 2, 3)), []int{0, 1}}, {query(2, []int{0, 1}, atom(0, 0, 1), atom(0, 0, 0), atom(0, 1, 1)), []int{0, 1, 2}},
		// A loop makes all atoms of its relation redundant, but not those of another one.
		{query(4, nil, atom(0, 0, 1), atom(0, 1, 2), atom(0, 3, 3), atom(0, 2, 0)), []int{2}}, {query(4, []int{0}, atom(0, 0, 1), atom(0, 1, 1), atom(0, 1, 2), atom(0, 2, 3)), []int{0, 1}}, {query(4, nil, atom(0, 0, 1), atom(1, 0, 1), atom(0, 3, 3)), []int{0, 1, 2}}, {query(3, nil, atom(0, 0, 1), atom(1, 0, 1), atom(0, 2, 2), atom(1, 2, 2)), []int{2, 3}},
		// A path of six atoms without a head, and around a loop.
		{query(6, nil, atom(0, 0, 1), atom(0, 1, 2), atom(0, 2, 3), atom(0, 3, 4), atom(0, 4, 5), atom(0, 5, 0)), []int{0, 1, 2, 3, 4, 5}}, {query(6, nil, atom(0, 0, 1), atom(0, 1, 0), atom(0, 2, 3), atom(0, 3, 4), atom(0, 4, 5), atom(0, 5, 2)), []int{0, 1}}, {query(6, nil, atom(0, 2, 3), atom(0, 3, 4), atom(0, 4, 5), atom(0, 5, 2), atom(0, 0, 1), atom(0, 1, 0)), []int{4, 5}},
	} {
		want := query(c.q.Vars, c.q.Head)
		for _, n := range c.keep {
			want.Body = append(want.Body, c.q.Body[n])
		}
		if got := impl.Minimize(c.q); !equal(got, want) {
			t.Errorf("Minimize(%v) = %v, want %v", c.q, got, want)
		}
		if got := impl.IsMinimal(c.q); got != (len(c.keep) == len(c.q.Body)) {
			t.Errorf("IsMinimal(%v) is %v", c.q, got)
		}
		if !impl.IsMinimal(want) {
			t.Errorf("IsMinimal(%v) is false", want)
		}
	}
}

// minimizableQueries returns queries, many of which have redundant atoms.
func minimizableQueries(seed uint64, count int) []impl.Rule {
	m := &maker{state: seed}
	list := validQueries()
	for range count {
		list = append(list, m.query(m.below(4)))
	}
	return list
}

func TestP080MinimizationKeepsTheAnswers(t *testing.T) {
	m := &maker{state: 80}
	smaller := 0
	for _, q := range minimizableQueries(80, 600) {
		small := impl.Minimize(q)
		if !impl.ValidRule(small) || !impl.IsMinimal(small) || !impl.IsContained(small, q) || !impl.IsContained(q, small) {
			t.Fatalf("Minimize(%v) = %v", q, small)
		}
		for range 5 {
			facts := m.facts(14)
			if a, b := impl.Answers(q, facts), impl.Answers(small, facts); !equal(a, b) {
				t.Fatalf("Answers(%v, %v) = %v, but of Minimize %v", q, facts, a, b)
			}
		}
		// No atom of the result can be left out.
		for n := range small.Body {
			if less := without(small, n); impl.ValidRule(less) && impl.IsContained(less, small) {
				t.Fatalf("Minimize(%v) = %v has the redundant atom %d", q, small, n)
			}
		}
		if len(small.Body) < len(q.Body)-1 {
			smaller++
		}
	}
	if smaller < 100 {
		t.Errorf("only %d queries have several redundant atoms", smaller)
	}
}

func TestP081MinimalQueriesAreNotChanged(t *testing.T) {
	minimal := 0
	for _, q := range minimizableQueries(81, 250) {
		small := impl.Minimize(q)
		if want := slowMinimize(q); !equal(small, want) {
			t.Fatalf("Minimize(%v) = %v, want %v", q, small, want)
		}
		if again := impl.Minimize(small); !equal(again, small) {
			t.Fatalf("Minimize(%v) = %v, and of this %v", q, small, again)
		}
		if !slices.Equal(small.Head, q.Head) || small.Vars != q.Vars {
			t.Fatalf("Minimize(%v) = %v", q, small)
		}
		for _, a := range small.Body {
			if !slices.Contains(q.Body, a) {
				t.Fatalf("Minimize(%v) = %v", q, small)
			}
		}
		all := len(small.Body) == len(q.Body)
		if impl.IsMinimal(q) != all {
			t.Fatalf("IsMinimal(%v) is %v, but Minimize has %d atoms", q, !all, len(small.Body))
		}
		if all && len(q.Body) > 1 {
			minimal++
		}
	}
	if minimal < 20 {
		t.Errorf("only %d queries of several atoms are minimal", minimal)
	}
}
