package tests

import (
	"slices"
	"testing"

	"loop.example/queryoptimizer/impl"
)

func TestValidRule(t *testing.T) {
	for _, q := range validQueries() {
		if !impl.ValidRule(q) {
			t.Errorf("ValidRule(%v) is false", q)
		}
	}
	for _, q := range invalidQueries() {
		if impl.ValidRule(q) {
			t.Errorf("ValidRule(%v) is true", q)
		}
	}
	m := &maker{state: 1300}
	for range 300 {
		if q := m.query(m.below(impl.MaxWidth + 1)); !impl.ValidRule(q) {
			t.Errorf("ValidRule(%v) is false", q)
		}
	}
}

func TestValidFacts(t *testing.T) {
	for _, list := range validFacts() {
		if !impl.ValidFacts(list) {
			t.Errorf("ValidFacts(%v) is false", list)
		}
	}
	for _, list := range invalidFacts() {
		if impl.ValidFacts(list) {
			t.Errorf("ValidFacts(%v) is true", list)
		}
	}
}

func TestValidFactsDemandsEachFactOnceInOrder(t *testing.T) {
	list := []impl.Fact{fact(0, 1, 2), fact(0, 1, 3), fact(0, 2, 1), fact(1, 0, 0), fact(1, 0, 9999), fact(3, 1, 2)}
	for i, f := range list {
		for k, g := range list {
			if got := impl.ValidFacts([]impl.Fact{f, g}); got != (i < k) {
				t.Errorf("ValidFacts of %v and %v is %v", f, g, got)
			}
		}
	}
}

func TestAnswers(t *testing.T) {
	path := []impl.Atom{atom(0, 0, 1), atom(0, 1, 2)}
	facts := []impl.Fact{fact(0, 1, 2), fact(0, 2, 3), fact(0, 2, 4), fact(0, 4, 4), fact(1, 2, 1), fact(1, 3, 3), fact(3, 9999, 0)}
	for _, c := range []struct {
		q    impl.Rule
		want [][]int
	}{
		{query(2, []int{0, 1}, atom(0, 0, 1)), [][]int{{1, 2}, {2, 3}, {2, 4}, {4, 4}}}, {query(2, []int{1, 0}, atom(0, 0, 1)), [][]int{{2, 1}, {3, 2}, {4, 2}, {4, 4}}}, {query(2, []int{1, 0}, atom(0, 1, 0)), [][]int{{1, 2}, {2, 3}, {2, 4}, {4, 4}}},
		{query(3, []int{0, 2}, path...), [][]int{{1, 3}, {1, 4}, {2, 4}, {4, 4}}}, {query(3, []int{2, 0}, path...), [][]int{{3, 1}, {4, 1}, {4, 2}, {4, 4}}}, {query(3, []int{1}, path...), [][]int{{2}, {4}}},
		{query(2, []int{0}, atom(0, 0, 0)), [][]int{{4}}}, {query(1, []int{0, 0}, atom(1, 0, 0)), [][]int{{3, 3}}}, {query(2, []int{1, 0}, atom(3, 0, 1)), [][]int{{0, 9999}}}, {query(2, []int{0}, atom(2, 0, 1)), nil}, {query(1, []int{0}, atom(3, 0, 0)), nil},
		{query(2, []int{0, 1}, atom(0, 0, 1), atom(1, 1, 0)), [][]int{{1, 2}}}, {query(2, []int{0, 1}, atom(0, 0, 1), atom(1, 0, 1)), nil}, {query(3, []int{0, 1}, atom(0, 0, 1), atom(1, 1, 2)), [][]int{{1, 2}, {2, 3}}},
		// Heads that are empty, or that repeat a variable.
		{query(3, nil, path...), [][]int{{}}}, {query(2, []int{}, atom(0, 0, 1), atom(1, 0, 1)), nil}, {query(3, []int{2, 0, 2}, path...), [][]int{{3, 1, 3}, {4, 1, 4}, {4, 2, 4}, {4, 4, 4}}}, {query(2, []int{0, 0, 0, 0, 0, 0}, atom(1, 0, 1)), [][]int{{2, 2, 2, 2, 2, 2}, {3, 3, 3, 3, 3, 3}}},
		// Variables that occur in no atom, and atoms that occur twice.
		{query(6, []int{1, 4}, atom(0, 4, 1)), [][]int{{2, 1}, {3, 2}, {4, 2}, {4, 4}}}, {query(6, nil, atom(1, 5, 5)), [][]int{{}}}, {query(3, []int{0, 2}, path[0], path[1], path[0], path[1]), [][]int{{1, 3}, {1, 4}, {2, 4}, {4, 4}}}, {query(2, []int{0}, slices.Repeat(path[:1], impl.MaxAtoms)...), [][]int{{1}, {2}, {4}}},
		// Atoms that have no variable in common.
		{query(4, []int{0, 2}, atom(1, 0, 1), atom(1, 2, 3)), [][]int{{2, 2}, {2, 3}, {3, 2}, {3, 3}}}, {query(4, []int{2, 0}, atom(1, 0, 1), atom(3, 2, 3)), [][]int{{9999, 2}, {9999, 3}}}, {query(4, []int{0}, atom(1, 0, 1), atom(2, 2, 3)), nil},
	} {
		if got := impl.Answers(c.q, facts); !equal(got, c.want) {
			t.Errorf("Answers(%v) = %v, want %v", c.q, got, c.want)
		}
		if got := impl.Answers(c.q, nil); len(got) != 0 {
			t.Errorf("Answers(%v, nil) = %v", c.q, got)
		}
	}
}

func TestAnswersAtTheLimits(t *testing.T) {
	ends := []impl.Fact{fact(0, 0, 0), fact(0, 0, 9999), fact(0, 9999, 0), fact(3, 9999, 9999)}
	if got := impl.Answers(query(6, []int{0, 5}, atom(0, 0, 5)), ends); !equal(got, [][]int{{0, 0}, {0, 9999}, {9999, 0}}) {
		t.Errorf("Answers for %v = %v", ends, got)
	}
	all := fan(3, impl.MaxFacts)
	var want [][]int
	for _, f := range all {
		want = append(want, []int{f.Y, f.X})
	}
	if got := impl.Answers(query(2, []int{1, 0}, atom(3, 0, 1)), all); !equal(got, want) {
		t.Errorf("Answers for MaxFacts facts = %v", got)
	}
	loops := []impl.Fact{fact(0, 1, 1), fact(0, 2, 2)}
	six := query(6, []int{5, 4, 3, 2, 1, 0}, atom(0, 0, 0), atom(0, 1, 1), atom(0, 2, 2), atom(0, 3, 3), atom(0, 4, 4), atom(0, 5, 5))
	if got := impl.Answers(six, loops); len(got) != 64 || !slices.Equal(got[0], []int{1, 1, 1, 1, 1, 1}) || !slices.Equal(got[1], []int{1, 1, 1, 1, 1, 2}) || !slices.Equal(got[63], []int{2, 2, 2, 2, 2, 2}) {
		t.Errorf("Answers of six atoms with six variables = %v", got)
	}
}

func TestAnswersOfInvalidArguments(t *testing.T) {
	for _, q := range invalidQueries() {
		for _, facts := range [][]impl.Fact{nil, {fact(0, 0, 0)}, {fact(0, 0, 0), fact(0, 0, 1), fact(1, 1, 1)}} {
			if got := impl.Answers(q, facts); got != nil {
				t.Errorf("Answers(%v, %v) = %v", q, facts, got)
			}
		}
		if got := impl.Freeze(q); got != nil {
			t.Errorf("Freeze(%v) = %v", q, got)
		}
	}
	for _, facts := range invalidFacts() {
		for _, q := range validQueries() {
			if got := impl.Answers(q, facts); got != nil {
				t.Errorf("Answers(%v, %v) = %v", q, facts, got)
			}
		}
	}
}

func TestAnswersAreThoseOfAllAssignments(t *testing.T) {
	m := &maker{state: 1301}
	some, repeated := 0, 0
	for range 1500 {
		q, facts := m.query(m.below(4)), m.facts(12)
		got, want := impl.Answers(q, facts), slowAnswers(q, facts, 3)
		if !equal(got, want) {
			t.Fatalf("Answers(%v, %v) = %v, want %v", q, facts, got, want)
		}
		if len(want) > 1 {
			some++
		}
		if len(slowAssignments(q.Body, facts, map[int]int{})) > len(want) {
			repeated++
		}
	}
	if some < 300 || repeated < 200 {
		t.Errorf("only %d queries have several answers, for only %d of them several assignments give the same one", some, repeated)
	}
}

func TestMaxMatchesAssignmentsAreConsidered(t *testing.T) {
	product := func(head ...int) impl.Rule { return query(6, head, atom(0, 0, 1), atom(1, 2, 3), atom(2, 4, 5)) }
	fans := func(a int, b int, c int) []impl.Fact { return slices.Concat(fan(0, a), fan(1, b), fan(2, c)) }
	for _, c := range []struct {
		q     impl.Rule
		facts []impl.Fact
		count int
		lost  []int
	}{
		// 2000 assignments, and 2001 of which the last one is lost.
		{product(1, 3, 5), fans(20, 10, 10), 2000, nil}, {product(1, 3, 5), fans(3, 23, 29), 2000, []int{3, 23, 29}}, {product(5, 3, 1), fans(3, 23, 29), 2000, []int{29, 23, 3}}, {product(5, 1), fans(3, 23, 29), 87, nil}, {product(), fans(3, 23, 29), 1, nil},
		// 2025 assignments: the last 25 ones are lost, by the order of the atoms.
		{query(4, []int{1, 3}, atom(0, 0, 1), atom(0, 2, 3)), fan(0, 45), 2000, []int{45, 21}}, {query(4, []int{1, 3}, atom(0, 2, 3), atom(0, 0, 1)), fan(0, 45), 2000, []int{21, 45}}, {query(4, []int{3, 1}, atom(0, 0, 1), atom(0, 2, 3)), fan(0, 45), 2000, []int{21, 45}}, {query(4, []int{1, 3}, atom(0, 0, 1), atom(0, 2, 3)), fan(0, 44), 1936, nil},
		// 3600 assignments, the first 2000 of which have 34 values of one variable; atoms that occur twice do not add assignments.
		{query(4, []int{1}, atom(0, 0, 1), atom(0, 2, 3)), fan(0, 60), 34, []int{35}}, {query(4, []int{3}, atom(0, 0, 1), atom(0, 2, 3)), fan(0, 60), 60, nil}, {query(4, []int{1}, atom(0, 0, 1), atom(0, 0, 1), atom(0, 2, 3), atom(0, 2, 3)), fan(0, 60), 34, []int{35}}, {query(6, []int{4}, atom(0, 1, 4), atom(0, 3, 2), atom(0, 1, 4)), fan(0, 60), 34, []int{35}},
	} {
		got := impl.Answers(c.q, c.facts)
		if len(got) != c.count || hasAnswer(got, c.lost) && c.lost != nil {
			t.Errorf("Answers(%v) for %d facts has %d answers, want %d; %v is one of them: %v", c.q, len(c.facts), len(got), c.count, c.lost, hasAnswer(got, c.lost))
		}
		if want := limitedAnswers(c.q, c.facts); !equal(got, want) {
			t.Errorf("Answers(%v) for %d facts = %v, want %v", c.q, len(c.facts), got, want)
		}
	}
}

func TestTheFirstAssignmentsAreThoseFoundFirst(t *testing.T) {
	m := &maker{state: 1302}
	limited, lost := 0, 0
	for range 60 {
		q := query(impl.MaxVars, nil, atom(0, 3, 0), atom(0, 1, 4), atom(0, 5, 2))
		if m.below(2) == 0 {
			q.Body = slices.Insert(q.Body, m.below(4), atom(0, m.below(6), m.below(6)))
		}
		for range 1 + m.below(4) {
			q.Head = append(q.Head, q.Body[m.below(len(q.Body))].Y)
		}
		var list []impl.Fact
		for range 20 {
			list = append(list, fact(0, m.below(6), m.below(6)))
		}
		facts := inOrder(list...)
		all := len(slowAssignments(q.Body, facts, map[int]int{}))
		got, want := impl.Answers(q, facts), limitedAnswers(q, facts)
		if !equal(got, want) {
			t.Fatalf("Answers(%v, %v) = %v, want %v of %d assignments", q, facts, got, want, all)
		}
		if all > impl.MaxMatches {
			limited++
			if len(want) < len(slowAnswers(q, facts, 6)) {
				lost++
			}
		}
	}
	if limited < 15 || lost < 8 {
		t.Errorf("only %d queries have more than MaxMatches assignments, only %d of them answers that are lost", limited, lost)
	}
}

// Trying all combinations of values of the variables that have nothing to do with a failure would take minutes.
func TestAnswersOfManyCombinationsThatFail(t *testing.T) {
	for _, c := range []struct {
		last  impl.Atom
		fact  impl.Fact
		count int
	}{
		{atom(1, 5, 5), fact(1, 99, 99), 0}, {atom(1, 1, 2), fact(1, 99, 99), 0}, {atom(1, 4, 5), fact(1, 99, 99), 0}, {atom(1, 1, 5), fact(1, 99, 99), 0}, {atom(1, 0, 0), fact(1, 1, 1), 0}, {atom(2, 1, 2), fact(1, 1, 2), 0},
		{atom(1, 1, 2), fact(1, 59, 59), 1}, {atom(1, 4, 5), fact(1, 59, 59), 1}, {atom(0, 4, 5), fact(0, 59, 59), 1},
	} {
		q := star(6, 0)
		q.Body = append(q.Body, c.last)
		facts := inOrder(append(fan(0, 59), c.fact)...)
		if got := impl.Answers(q, facts); len(got) != c.count {
			t.Errorf("Answers(%v) = %v", q, got)
		}
		reversed := query(6, q.Head)
		for _, a := range q.Body {
			reversed.Body = append(reversed.Body, atom(a.Rel, a.Y, a.X))
		}
		var turned []impl.Fact
		for _, f := range facts {
			turned = append(turned, fact(f.Rel, f.Y, f.X))
		}
		if got := impl.Answers(reversed, inOrder(turned...)); len(got) != c.count {
			t.Errorf("Answers(%v) = %v", reversed, got)
		}
	}
}

func TestP071MoreFactsHaveMoreAnswers(t *testing.T) {
	m := &maker{state: 71}
	more := 0
	for range 1500 {
		q, all := m.query(m.below(4)), m.facts(12)
		some := slices.DeleteFunc(slices.Clone(all), func(impl.Fact) bool { return m.below(4) == 0 })
		a, b := impl.Answers(q, some), impl.Answers(q, all)
		if !containsAll(b, a) {
			t.Fatalf("Answers(%v, %v) = %v, but for %v %v", q, some, a, all, b)
		}
		if len(a) > 0 && len(b) > len(a) {
			more++
		}
	}
	if more < 100 {
		t.Errorf("only %d queries have more answers", more)
	}
}

func TestP072FewerAtomsHaveMoreAnswers(t *testing.T) {
	m := &maker{state: 72}
	more := 0
	for range 1000 {
		q, facts := m.query(m.below(3)), m.facts(12)
		all := impl.Answers(q, facts)
		for n := range q.Body {
			beginning := query(q.Vars, q.Head, q.Body[:n]...)
			if !impl.ValidRule(beginning) {
				continue
			}
			got := impl.Answers(beginning, facts)
			if !containsAll(got, all) {
				t.Fatalf("Answers(%v, %v) = %v, but of the first %d atoms %v", q, facts, all, n, got)
			}
			if len(all) > 0 && len(got) > len(all) {
				more++
			}
		}
	}
	if more < 100 {
		t.Errorf("only %d beginnings have more answers", more)
	}
}

func TestP073TheOrderOfAtomsDoesNotMatter(t *testing.T) {
	m := &maker{state: 73}
	for range 1500 {
		q, facts := m.query(m.below(4)), m.facts(12)
		body := slices.Clone(q.Body)
		slices.Reverse(body)
		turned := query(q.Vars, q.Head, body...)
		if a, b := impl.Answers(q, facts), impl.Answers(turned, facts); !equal(a, b) {
			t.Fatalf("Answers(%v, %v) = %v, with reversed atoms %v", q, facts, a, b)
		}
		if a, b := impl.Freeze(q), impl.Freeze(turned); !equal(a, b) {
			t.Fatalf("Freeze(%v) = %v, with reversed atoms %v", q, a, b)
		}
	}
}

func TestFreeze(t *testing.T) {
	for _, c := range []struct {
		q    impl.Rule
		want []impl.Fact
	}{
		{query(1, nil, atom(0, 0, 0)), []impl.Fact{fact(0, 0, 0)}}, {query(6, []int{5}, atom(3, 5, 5)), []impl.Fact{fact(3, 5, 5)}}, {query(3, []int{0, 2}, atom(0, 0, 1), atom(0, 1, 2)), []impl.Fact{fact(0, 0, 1), fact(0, 1, 2)}},
		{query(4, nil, atom(1, 0, 1), atom(0, 3, 2), atom(0, 3, 1), atom(0, 2, 3), atom(3, 0, 0), atom(2, 1, 1)), []impl.Fact{fact(0, 2, 3), fact(0, 3, 1), fact(0, 3, 2), fact(1, 0, 1), fact(2, 1, 1), fact(3, 0, 0)}},
		{query(2, nil, atom(1, 0, 1), atom(0, 1, 0), atom(1, 0, 1), atom(0, 1, 0)), []impl.Fact{fact(0, 1, 0), fact(1, 0, 1)}}, {query(2, nil, slices.Repeat([]impl.Atom{atom(2, 1, 0)}, impl.MaxAtoms)...), []impl.Fact{fact(2, 1, 0)}},
	} {
		if got := impl.Freeze(c.q); !equal(got, c.want) {
			t.Errorf("Freeze(%v) = %v, want %v", c.q, got, c.want)
		}
	}
}

func TestP074AQueryAnswersItsOwnFrozenAtoms(t *testing.T) {
	m := &maker{state: 74}
	list := validQueries()
	for range 1000 {
		list = append(list, m.query(m.below(impl.MaxWidth+1)))
	}
	for _, q := range list {
		facts := impl.Freeze(q)
		if !impl.ValidFacts(facts) || !equal(facts, asFacts(q)) {
			t.Fatalf("Freeze(%v) = %v", q, facts)
		}
		if got := impl.Answers(q, facts); !hasAnswer(got, q.Head) {
			t.Fatalf("Answers of %v for its own atoms = %v", q, got)
		}
	}
}
