package tests

import (
	"cmp"
	"maps"
	"math"
	"slices"

	"loop.example/queryoptimizer/impl"
)

// atom returns the condition that two variables are a pair of a relation.
func atom(rel int, x int, y int) impl.Atom {
	return impl.Atom{Rel: rel, X: x, Y: y}
}

// fact returns a pair of a relation.
func fact(rel int, x int, y int) impl.Fact {
	return impl.Fact{Rel: rel, X: x, Y: y}
}

// query returns a conjunctive query.
func query(vars int, head []int, body ...impl.Atom) impl.Rule {
	return impl.Rule{Vars: vars, Head: head, Body: body}
}

// star returns a query in which the first variable is a pair with each other one.
func star(vars int, head ...int) impl.Rule {
	q := impl.Rule{Vars: vars, Head: head}
	for n := 1; n < vars; n++ {
		q.Body = append(q.Body, atom(0, 0, n))
	}
	return q
}

// fan returns a number of facts of a relation with the same first value, whose second values are the numbers from 1 on.
func fan(rel int, count int) []impl.Fact {
	var list []impl.Fact
	for n := range count {
		list = append(list, fact(rel, 0, n+1))
	}
	return list
}

// compareFacts compares two facts by Rel, X and Y.
func compareFacts(f impl.Fact, g impl.Fact) int {
	return cmp.Or(f.Rel-g.Rel, f.X-g.X, f.Y-g.Y)
}

// inOrder returns facts in order, each once.
func inOrder(list ...impl.Fact) []impl.Fact {
	result := slices.Clone(list)
	slices.SortFunc(result, compareFacts)
	return slices.Compact(result)
}

// validQueries returns queries with numbers at the limits, and of special forms.
func validQueries() []impl.Rule {
	return []impl.Rule{
		query(1, nil, atom(0, 0, 0)), query(1, []int{}, atom(3, 0, 0)), query(1, []int{0, 0, 0, 0, 0, 0}, atom(0, 0, 0)), query(6, []int{5}, atom(3, 5, 5)), query(6, []int{0, 5}, atom(0, 5, 0)),
		query(2, []int{1, 0, 1}, atom(0, 0, 1)), query(6, nil, atom(1, 2, 3)), query(6, []int{3}, atom(1, 2, 3)), query(2, []int{1}, slices.Repeat([]impl.Atom{atom(0, 0, 1)}, impl.MaxAtoms)...),
		query(6, []int{5, 4, 3, 2, 1, 0}, atom(0, 0, 1), atom(1, 2, 3), atom(2, 4, 5)), star(6, 0, 1, 2, 3, 4, 5), query(3, []int{2, 0}, atom(0, 0, 1), atom(0, 1, 2), atom(0, 0, 1)),
	}
}

// invalidQueries returns queries that are not valid.
func invalidQueries() []impl.Rule {
	list := []impl.Rule{
		{}, query(1, nil), query(6, []int{}, []impl.Atom{}...), query(1, []int{0}), query(7, nil, atom(0, 0, 0)), query(7, []int{6}, atom(0, 6, 6)), query(0, nil, atom(0, 0, 0)),
		query(2, nil, slices.Repeat([]impl.Atom{atom(0, 0, 1)}, impl.MaxAtoms+1)...), query(1, []int{0, 0, 0, 0, 0, 0, 0}, atom(0, 0, 0)), query(1, make([]int, 100), atom(0, 0, 0)),
		// Variables of the head that occur in no atom.
		query(2, []int{1}, atom(0, 0, 0)), query(2, []int{0, 1}, atom(0, 0, 0)), query(2, []int{0}, atom(0, 1, 1)), query(3, []int{0, 2, 1}, atom(0, 0, 1)), query(6, []int{5}, atom(0, 0, 1), atom(1, 2, 3), atom(2, 4, 4)),
	}
	for _, n := range []int{-1, 2, math.MaxInt, math.MinInt} {
		list = append(list, query(2, nil, atom(0, n, 0)), query(2, nil, atom(0, 0, n)), query(2, nil, atom(0, n, n)), query(2, []int{n}, atom(0, n, n)), query(2, []int{n}, atom(0, 0, 1)), query(2, []int{0, 1, n}, atom(0, 0, 1)), query(2, nil, atom(0, 0, 1), atom(0, 1, n)))
	}
	for _, n := range []int{-1, impl.MaxRelation + 1, math.MaxInt, math.MinInt} {
		list = append(list, query(2, nil, atom(n, 0, 1)), query(2, []int{0}, atom(0, 0, 1), atom(n, 0, 1)), query(2, nil, atom(n, 0, 1), atom(0, 0, 1)))
	}
	for _, n := range []int{-1, 0, impl.MaxVars + 1, math.MaxInt, math.MinInt} {
		list = append(list, query(n, nil, atom(0, 0, 0)), query(n, []int{0}, atom(0, 0, 1)))
	}
	return list
}

// validFacts returns lists of facts with numbers at the limits.
func validFacts() [][]impl.Fact {
	return [][]impl.Fact{
		nil, {}, {fact(0, 0, 0)}, {fact(3, 9999, 9999)}, {fact(0, 0, 9999), fact(0, 9999, 0), fact(3, 0, 0)}, {fact(0, 5, 5), fact(1, 4, 4), fact(2, 3, 3), fact(3, 2, 2)},
		{fact(1, 1, 1), fact(1, 1, 2), fact(1, 2, 1)}, fan(2, impl.MaxFacts), append(fan(0, 30), fan(3, 30)...),
	}
}

// invalidFacts returns lists of facts that are not valid.
func invalidFacts() [][]impl.Fact {
	list := [][]impl.Fact{
		{fact(0, 0, 1), fact(0, 0, 1)}, {fact(0, 0, 1), fact(0, 0, 2), fact(0, 0, 2)}, {fact(0, 0, 2), fact(0, 0, 1)}, {fact(0, 2, 0), fact(0, 1, 9)}, {fact(1, 0, 0), fact(0, 9, 9)},
		{fact(0, 0, 1), fact(0, 0, 3), fact(0, 0, 2)}, {fact(0, 0, 1), fact(0, 0, 2), fact(0, 0, 1)}, fan(0, impl.MaxFacts+1), append(fan(0, 31), fan(3, 30)...), fan(0, 10000),
	}
	for _, n := range []int{-1, impl.MaxNumber + 1, math.MaxInt, math.MinInt} {
		list = append(list, []impl.Fact{fact(0, n, 0)}, []impl.Fact{fact(0, 0, n)}, []impl.Fact{fact(0, 0, 0), fact(1, n, 1)}, []impl.Fact{fact(0, 1, n), fact(1, 0, 0)})
	}
	for _, n := range []int{-1, impl.MaxRelation + 1, math.MaxInt, math.MinInt} {
		list = append(list, []impl.Fact{fact(n, 0, 0)}, []impl.Fact{fact(0, 0, 0), fact(n, 1, 1)}, []impl.Fact{fact(n, 1, 1), fact(3, 0, 0)})
	}
	return list
}

// query returns a valid query with a number of variables in its head, often with atoms that occur twice and variables that occur in none.
func (m *maker) query(head int) impl.Rule {
	q := impl.Rule{Vars: 1 + m.below(impl.MaxVars)}
	relations, used := 1+m.below(2), 1+m.below(q.Vars)
	for range 1 + m.below(impl.MaxAtoms) {
		if len(q.Body) > 0 && m.below(6) == 0 {
			q.Body = append(q.Body, q.Body[m.below(len(q.Body))])
			continue
		}
		q.Body = append(q.Body, atom(m.below(relations), m.below(used), m.below(used)))
	}
	for range head {
		x := q.Body[m.below(len(q.Body))]
		q.Head = append(q.Head, []int{x.X, x.Y}[m.below(2)])
	}
	return q
}

// facts returns at most a number of facts in order, with so few values that no query has more than MaxMatches assignments.
func (m *maker) facts(count int) []impl.Fact {
	var list []impl.Fact
	for range m.below(count + 1) {
		list = append(list, fact(m.below(2), m.below(3), m.below(3)))
	}
	return inOrder(list...)
}

// tuples returns all lists of a number of elements with numbers from 0 to below a limit.
func tuples(count int, limit int) [][]int {
	if count == 0 {
		return [][]int{nil}
	}
	var list [][]int
	for _, rest := range tuples(count-1, limit) {
		for n := range limit {
			list = append(list, append(slices.Clone(rest), n))
		}
	}
	return list
}

// holds reports whether every atom is a fact if the variables have some values.
func holds(body []impl.Atom, values []int, facts []impl.Fact) bool {
	return !slices.ContainsFunc(body, func(a impl.Atom) bool {
		return !slices.Contains(facts, fact(a.Rel, values[a.X], values[a.Y]))
	})
}

// imageOf returns the values of some variables.
func imageOf(variables []int, values []int) []int {
	var image []int
	for _, n := range variables {
		image = append(image, values[n])
	}
	return image
}

// sortedOnce returns lists in lexicographical order, each once.
func sortedOnce(list [][]int) [][]int {
	result := slices.Clone(list)
	slices.SortFunc(result, slices.Compare)
	return slices.CompactFunc(result, slices.Equal)
}

// slowAnswers returns the answers for facts with values from 0 to below a limit: those of all assignments of these values.
func slowAnswers(q impl.Rule, facts []impl.Fact, limit int) [][]int {
	var list [][]int
	for _, values := range tuples(q.Vars, limit) {
		if holds(q.Body, values, facts) {
			list = append(list, imageOf(q.Head, values))
		}
	}
	return sortedOnce(list)
}

// slowAssignments returns the assignments in the order in which they are found if the atoms are matched one after the other with the facts in order.
func slowAssignments(body []impl.Atom, facts []impl.Fact, values map[int]int) []map[int]int {
	if len(body) == 0 {
		return []map[int]int{values}
	}
	var list []map[int]int
	for _, f := range facts {
		next := maps.Clone(values)
		if f.Rel == body[0].Rel && bind(next, body[0].X, f.X) && bind(next, body[0].Y, f.Y) {
			list = append(list, slowAssignments(body[1:], facts, next)...)
		}
	}
	return list
}

// bind gives a variable a value, and reports whether it has this value.
func bind(values map[int]int, variable int, value int) bool {
	if old, bound := values[variable]; bound {
		return old == value
	}
	values[variable] = value
	return true
}

// limitedAnswers returns the answers that the first of all assignments give.
func limitedAnswers(q impl.Rule, facts []impl.Fact) [][]int {
	all := slowAssignments(q.Body, facts, map[int]int{})
	var list [][]int
	for _, values := range all[:min(len(all), impl.MaxMatches)] {
		var answer []int
		for _, n := range q.Head {
			answer = append(answer, values[n])
		}
		list = append(list, answer)
	}
	return sortedOnce(list)
}

// containsAll reports whether each answer of a list is one of another list.
func containsAll(list [][]int, some [][]int) bool {
	return !slices.ContainsFunc(some, func(answer []int) bool { return !hasAnswer(list, answer) })
}

// hasAnswer reports whether a list has an answer.
func hasAnswer(list [][]int, answer []int) bool {
	return slices.ContainsFunc(list, func(other []int) bool { return slices.Equal(other, answer) })
}

// asFacts returns the atoms of a query as facts, in order, each once.
func asFacts(q impl.Rule) []impl.Fact {
	var list []impl.Fact
	for _, a := range q.Body {
		list = append(list, fact(a.Rel, a.X, a.Y))
	}
	return inOrder(list...)
}

// isHomomorphism reports whether a mapping of each variable maps the atoms and the head of a valid query to those of another one.
func isHomomorphism(from impl.Rule, to impl.Rule, m []int) bool {
	return holds(from.Body, m, asFacts(to)) && slices.Equal(imageOf(from.Head, m), to.Head)
}

// slowHomomorphism returns the homomorphism with the first possible facts for the atoms, of all mappings, and false if there is none.
func slowHomomorphism(from impl.Rule, to impl.Rule) ([]int, bool) {
	facts := asFacts(to)
	var best, first []int
	for _, m := range tuples(from.Vars, to.Vars) {
		if !isHomomorphism(from, to, m) {
			continue
		}
		var places []int
		for _, a := range from.Body {
			places = append(places, slices.Index(facts, fact(a.Rel, m[a.X], m[a.Y])))
		}
		// Of several mappings with the same facts, the first one maps the other variables to 0.
		if best == nil || slices.Compare(places, first) < 0 {
			best, first = m, places
		}
	}
	return best, best != nil
}

// without returns a query without one of its atoms.
func without(q impl.Rule, n int) impl.Rule {
	return impl.Rule{Vars: q.Vars, Head: q.Head, Body: slices.Concat(q.Body[:n], q.Body[n+1:])}
}

// occurs reports whether all variables of the head of a query occur in an atom.
func occurs(q impl.Rule) bool {
	return !slices.ContainsFunc(q.Head, func(n int) bool {
		return !slices.ContainsFunc(q.Body, func(a impl.Atom) bool { return a.X == n || a.Y == n })
	})
}

// slowMinimize returns a valid query without redundant atoms, found by the words of the document.
func slowMinimize(q impl.Rule) impl.Rule {
	for n := range q.Body {
		less := without(q, n)
		if len(less.Body) == 0 || !occurs(less) {
			continue
		}
		if _, found := slowHomomorphism(q, less); found {
			return slowMinimize(less)
		}
	}
	return q
}
