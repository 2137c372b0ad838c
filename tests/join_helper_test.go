package tests

import (
	"cmp"
	"math"
	"slices"
	"testing"

	"loop.example/queryoptimizer/impl"
)

// edge returns the join condition of two relations.
func edge(a int, b int, den int) impl.Edge {
	return impl.Edge{A: a, B: b, Den: den}
}

// graph returns a join graph.
func graph(rows []int, edges ...impl.Edge) impl.Graph {
	return impl.Graph{Rows: rows, Edges: edges}
}

// leaf returns the tree of one relation.
func leaf(n int) impl.JoinTree {
	return impl.JoinTree{Leaf: n}
}

// tree returns the join of two trees.
func tree(first impl.JoinTree, second impl.JoinTree) impl.JoinTree {
	return impl.JoinTree{Kids: []impl.JoinTree{first, second}}
}

// ones returns a number of relations with one row each.
func ones(count int) []int {
	return slices.Repeat([]int{1}, count)
}

// validGraphs returns graphs with numbers at the limits.
func validGraphs() []impl.Graph {
	return []impl.Graph{
		graph(ones(1)), graph(ones(impl.MaxRelations)), graph([]int{impl.MaxSize}), graph([]int{1, 1000, 1, 1000, 1}),
		graph(ones(2), edge(0, 1, 1)), graph(ones(2), edge(0, 1, impl.MaxSize)), graph(ones(5), edge(0, 4, 7), edge(3, 4, 7), edge(0, 1, 1)),
		graph(ones(2), slices.Repeat([]impl.Edge{edge(0, 1, 1)}, impl.MaxEdges)...), graph(ones(4), edge(0, 1, 2), edge(0, 2, 2), edge(0, 3, 2), edge(1, 2, 2), edge(1, 3, 2), edge(2, 3, 2)),
	}
}

// invalidGraphs returns graphs that are not valid.
func invalidGraphs() []impl.Graph {
	list := []impl.Graph{
		{}, graph(nil, edge(0, 1, 1)), graph(ones(impl.MaxRelations + 1)), graph(ones(100)), graph(ones(2), slices.Repeat([]impl.Edge{edge(0, 1, 1)}, impl.MaxEdges+1)...),
		graph(ones(1), edge(0, 1, 1)), graph(ones(1), edge(0, 0, 1)), graph(ones(3), edge(0, 3, 1)), graph(ones(3), edge(-1, 0, 1)), graph(ones(3), edge(-2, -1, 1)), graph(ones(3), edge(3, 4, 1)),
		graph(ones(3), edge(1, 1, 1)), graph(ones(3), edge(2, 1, 1)), graph(ones(3), edge(1, 0, 1)), graph(ones(3), edge(0, math.MaxInt, 1)), graph(ones(3), edge(math.MinInt, 1, 1)), graph(ones(3), edge(math.MinInt, math.MaxInt, 1)),
	}
	for _, n := range []int{0, -1, impl.MaxSize + 1, math.MaxInt, math.MinInt} {
		list = append(list, graph([]int{n}), graph([]int{n, 1, 1}), graph([]int{1, 1, n}), graph(ones(3), edge(0, 1, n)), graph(ones(3), edge(0, 1, 1), edge(0, 2, 1), edge(1, 2, n)))
	}
	return list
}

// invalidTrees returns trees that are not valid for any graph with three relations.
func invalidTrees() []impl.JoinTree {
	pair := tree(leaf(0), leaf(1))
	list := []impl.JoinTree{
		leaf(-1), leaf(3), leaf(4), leaf(64), leaf(math.MaxInt), leaf(math.MinInt), {Leaf: 1, Kids: pair.Kids}, {Leaf: -1, Kids: pair.Kids}, {Leaf: 2, Kids: pair.Kids},
		{Kids: []impl.JoinTree{leaf(0)}}, {Leaf: 1, Kids: []impl.JoinTree{leaf(0)}}, {Kids: []impl.JoinTree{leaf(0), leaf(1), leaf(2)}}, {Kids: make([]impl.JoinTree, 100)},
		tree(leaf(0), leaf(0)), tree(leaf(2), leaf(2)), tree(pair, leaf(0)), tree(pair, leaf(1)), tree(leaf(1), pair), tree(pair, pair), tree(tree(leaf(0), leaf(2)), tree(leaf(1), leaf(2))),
	}
	for _, bad := range slices.Clone(list) {
		list = append(list, tree(bad, leaf(2)), tree(leaf(2), bad), tree(leaf(1), tree(bad, leaf(2))), tree(tree(leaf(2), bad), leaf(0)))
	}
	// Too many levels, once with a relation for each level, and once with kids that share their memory.
	deep, bush := leaf(0), leaf(0)
	for n := range 100000 {
		deep = tree(deep, leaf(n%3))
	}
	for range 100 {
		bush = tree(bush, bush)
	}
	return append(list, deep, bush, tree(leaf(1), bush), tree(tree(leaf(0), leaf(1)), tree(tree(leaf(2), leaf(3)), leaf(4))))
}

// graph returns a valid graph, often with trees of the same cost.
func (m *maker) graph() impl.Graph {
	sizes := [][]int{{1, 2, 3, 5, 7, 10, 60, 300, 1000}, {1, 10, 100, 1000}, {1, 2}, {10}}[m.below(4)]
	var g impl.Graph
	for range 1 + m.below(impl.MaxRelations) {
		g.Rows = append(g.Rows, sizes[m.below(len(sizes))])
	}
	for range m.below(impl.MaxEdges + 1) {
		if len(g.Rows) == 1 {
			break
		}
		b := 1 + m.below(len(g.Rows)-1)
		g.Edges = append(g.Edges, edge(m.below(b), b, sizes[m.below(len(sizes))]))
	}
	return g
}

// members returns the relations of a set.
func members(mask int) []int {
	var list []int
	for n := range impl.MaxRelations {
		if mask>>n&1 == 1 {
			list = append(list, n)
		}
	}
	return list
}

// maskOf returns the set of the relations of a tree.
func maskOf(x impl.JoinTree) int {
	if len(x.Kids) == 0 {
		return 1 << x.Leaf
	}
	return maskOf(x.Kids[0]) | maskOf(x.Kids[1])
}

// treesOf returns all trees of a set of relations.
func treesOf(mask int) []impl.JoinTree {
	if list := members(mask); len(list) == 1 {
		return []impl.JoinTree{leaf(list[0])}
	}
	var list []impl.JoinTree
	for first := 1; first < mask; first++ {
		if first&mask != first {
			continue
		}
		for _, x := range treesOf(first) {
			for _, y := range treesOf(mask - first) {
				list = append(list, tree(x, y))
			}
		}
	}
	return list
}

// ordersOf returns all orders of some relations, in lexicographical order.
func ordersOf(list []int) [][]int {
	if len(list) == 0 {
		return [][]int{nil}
	}
	var orders [][]int
	for i, n := range list {
		for _, rest := range ordersOf(slices.Concat(list[:i], list[i+1:])) {
			orders = append(orders, slices.Concat([]int{n}, rest))
		}
	}
	return orders
}

// compareTrees compares two trees of the same relations by the sets of the relations of first kids, those of the root first.
func compareTrees(x impl.JoinTree, y impl.JoinTree) int {
	if len(x.Kids) == 0 {
		return 0
	}
	if c := cmp.Compare(maskOf(x.Kids[0]), maskOf(y.Kids[0])); c != 0 {
		return c
	}
	return cmp.Or(compareTrees(x.Kids[0], y.Kids[0]), compareTrees(x.Kids[1], y.Kids[1]))
}

// slowSize returns the size of the join of a set of relations, by the words of the document.
func slowSize(g impl.Graph, mask int) int {
	size := 1
	for _, n := range members(mask) {
		size *= g.Rows[n]
	}
	for _, e := range g.Edges {
		if both := 1<<e.A | 1<<e.B; mask&both == both {
			size /= e.Den
		}
	}
	return max(size, 1)
}

// slowCost returns the cost of a valid tree, by the words of the document.
func slowCost(g impl.Graph, x impl.JoinTree) int {
	if len(x.Kids) == 0 {
		return 0
	}
	return slowSize(g, maskOf(x)) + slowCost(g, x.Kids[0]) + slowCost(g, x.Kids[1])
}

// slowBest returns the tree of a set of relations that has the smallest cost and is the first one of those, and this cost.
func slowBest(g impl.Graph, mask int) (impl.JoinTree, int) {
	list := treesOf(mask)
	best := list[0]
	for _, x := range list[1:] {
		if cmp.Or(cmp.Compare(slowCost(g, x), slowCost(g, best)), compareTrees(x, best)) < 0 {
			best = x
		}
	}
	return best, slowCost(g, best)
}

// orderCost returns the sum of the sizes of the first two relations of an order, the first three, and so on.
func orderCost(g impl.Graph, order []int) int {
	sum, mask := 0, 0
	for i, n := range order {
		mask |= 1 << n
		if i > 0 {
			sum += slowSize(g, mask)
		}
	}
	return sum
}

// slowGreedy returns the tree that is made of a list of trees by joining the two whose join is smallest, again and again.
func slowGreedy(g impl.Graph, list []impl.JoinTree) impl.JoinTree {
	if len(list) == 1 {
		return list[0]
	}
	first, second := 0, 1
	size := func(i int, k int) int { return slowSize(g, maskOf(list[i])|maskOf(list[k])) }
	for i := range list {
		for k := range list {
			if i < k && size(i, k) < size(first, second) {
				first, second = i, k
			}
		}
	}
	rest := slices.Concat(list[:second], list[second+1:])
	rest[first] = tree(list[first], list[second])
	return slowGreedy(g, rest)
}

// treeCost returns TreeCost of a valid tree.
func treeCost(t *testing.T, g impl.Graph, x impl.JoinTree) int {
	t.Helper()
	n := impl.TreeCost(g, x)
	if n < 0 {
		t.Fatalf("TreeCost(%v, %v) = %d", g, x, n)
	}
	return n
}
