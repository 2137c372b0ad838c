package tests

import (
	"math"
	"slices"
	"testing"

	"loop.example/queryoptimizer/impl"
)

// chain is a graph in which each relation is joined with the next one.
func chain() impl.Graph {
	return graph([]int{100, 10, 1000}, edge(0, 1, 100), edge(1, 2, 1000))
}

func TestValidGraph(t *testing.T) {
	for _, g := range append(validGraphs(), chain()) {
		if !impl.ValidGraph(g) {
			t.Errorf("ValidGraph(%v) is false", g)
		}
	}
	for _, g := range invalidGraphs() {
		if impl.ValidGraph(g) {
			t.Errorf("ValidGraph(%v) is true", g)
		}
	}
}

func TestInvalidGraphsHaveNoTrees(t *testing.T) {
	for _, g := range invalidGraphs() {
		for _, mask := range []int{0, 1, 2, 3, -1} {
			if got := impl.SubsetSize(g, mask); got != -1 {
				t.Errorf("SubsetSize(%v, %d) = %d", g, mask, got)
			}
		}
		for _, x := range []impl.JoinTree{leaf(0), leaf(1), tree(leaf(0), leaf(1))} {
			if n, leaves := impl.TreeCost(g, x), impl.LeavesOf(g, x); n != -1 || leaves != nil {
				t.Errorf("TreeCost and LeavesOf of %v for %v = %d, %v", x, g, n, leaves)
			}
		}
		best, a := impl.BestTree(g)
		order, b := impl.BestOrder(g)
		greedy, c := impl.GreedyTree(g)
		if !equal(best, impl.JoinTree{}) || order != nil || !equal(greedy, impl.JoinTree{}) || a != -1 || b != -1 || c != -1 {
			t.Errorf("BestTree, BestOrder and GreedyTree of %v = %v, %d, %v, %d, %v, %d", g, best, a, order, b, greedy, c)
		}
		if costs := impl.BestCosts(g); costs != nil {
			t.Errorf("BestCosts(%v) = %v", g, costs)
		}
		for _, costs := range [][]int{nil, {}, {0}, {0, 0}, {0, 0, 0, 1}, make([]int, 64)} {
			if impl.CheckCosts(g, costs) {
				t.Errorf("CheckCosts(%v, %v) is true", g, costs)
			}
		}
	}
}

func TestSubsetSize(t *testing.T) {
	// Each division is rounded down, the result is at least 1, and a condition may occur twice.
	steps := graph([]int{7, 5, 9, 2}, edge(0, 1, 4), edge(0, 2, 3), edge(0, 1, 3), edge(2, 3, 1000), edge(1, 2, 7))
	for _, c := range []struct {
		g    impl.Graph
		mask int
		want int
	}{
		{chain(), 1, 100}, {chain(), 2, 10}, {chain(), 4, 1000}, {chain(), 3, 10}, {chain(), 5, 100000}, {chain(), 6, 10}, {chain(), 7, 10},
		// 35/4/3, 63/3, 45/7, 18/1000, 315/4/3/3/7, 70/4/3, 630/4/3/3/1000/7.
		{steps, 1, 7}, {steps, 8, 2}, {steps, 3, 2}, {steps, 5, 21}, {steps, 6, 6}, {steps, 9, 14}, {steps, 10, 10}, {steps, 12, 1}, {steps, 7, 1}, {steps, 11, 5}, {steps, 13, 1}, {steps, 14, 1}, {steps, 15, 1},
		{graph([]int{1}), 1, 1}, {graph([]int{1000, 1000, 1000, 1000, 1000}), 31, 1000000000000000}, {graph([]int{1000, 1000, 1000, 1000, 1000}, edge(0, 4, 1000)), 31, 1000000000000}, {graph([]int{1000, 1000, 1000, 1000, 1000}, edge(0, 4, 1000)), 15, 1000000000000},
		{graph([]int{10, 10, 10}, edge(0, 1, 3)), 7, 333}, {graph([]int{10, 10, 10}, edge(0, 1, 3)), 3, 33}, {graph([]int{10, 10, 10}, edge(0, 1, 3), edge(1, 2, 3)), 7, 111}, {graph([]int{2, 1, 3}, edge(0, 1, 4)), 7, 1}, {graph([]int{2, 1, 7}, edge(0, 1, 4)), 7, 3},
	} {
		if got := impl.SubsetSize(c.g, c.mask); got != c.want {
			t.Errorf("SubsetSize(%v, %d) = %d, want %d", c.g, c.mask, got, c.want)
		}
	}
	for _, c := range []struct {
		g    impl.Graph
		mask int
	}{
		{chain(), 0}, {chain(), -1}, {chain(), -7}, {chain(), 8}, {chain(), 9}, {chain(), 15}, {chain(), math.MaxInt}, {chain(), math.MinInt}, {chain(), math.MinInt + 1}, {chain(), 1 << 32}, {chain(), 1<<32 + 1},
		{graph(ones(1)), 2}, {graph(ones(1)), 3}, {graph(ones(1)), 0}, {graph(ones(5)), 32}, {graph(ones(5)), 33}, {graph(ones(5)), 0},
	} {
		if got := impl.SubsetSize(c.g, c.mask); got != -1 {
			t.Errorf("SubsetSize(%v, %d) = %d", c.g, c.mask, got)
		}
	}
}

func TestP062SizesDoNotIncreaseWithConditions(t *testing.T) {
	m := &maker{state: 62}
	for range 1000 {
		g := m.graph()
		for mask := 1; mask < 1<<len(g.Rows); mask++ {
			size, product := impl.SubsetSize(g, mask), 1
			for _, n := range members(mask) {
				product *= g.Rows[n]
			}
			if free := impl.SubsetSize(graph(g.Rows), mask); free != product || size < 1 || size > product {
				t.Fatalf("SubsetSize(%v, %d) = %d, without edges %d", g, mask, size, free)
			}
			if want := slowSize(g, mask); size != want {
				t.Fatalf("SubsetSize(%v, %d) = %d, want %d", g, mask, size, want)
			}
			if len(g.Rows) == 1 || len(g.Edges) == impl.MaxEdges {
				continue
			}
			b := 1 + m.below(len(g.Rows)-1)
			more := graph(g.Rows, slices.Insert(slices.Clone(g.Edges), m.below(len(g.Edges)+1), edge(m.below(b), b, 1+m.below(20)))...)
			if got := impl.SubsetSize(more, mask); got > size || got < 1 {
				t.Fatalf("SubsetSize(%v, %d) = %d, with one edge less %d", more, mask, got, size)
			}
		}
	}
}

func TestTreeCost(t *testing.T) {
	g := graph([]int{100, 10, 1000, 2}, edge(0, 1, 100), edge(1, 2, 1000))
	for _, c := range []struct {
		x    impl.JoinTree
		want int
	}{
		{leaf(0), 0}, {leaf(3), 0}, {tree(leaf(0), leaf(1)), 10}, {tree(leaf(1), leaf(0)), 10}, {tree(leaf(2), leaf(0)), 100000}, {tree(leaf(3), leaf(1)), 20},
		{tree(tree(leaf(0), leaf(1)), leaf(2)), 20}, {tree(leaf(0), tree(leaf(1), leaf(2))), 20}, {tree(tree(leaf(0), leaf(2)), leaf(1)), 100010}, {tree(leaf(3), tree(leaf(2), leaf(0))), 300000},
		{tree(tree(leaf(0), leaf(1)), tree(leaf(2), leaf(3))), 10 + 2000 + 20}, {tree(leaf(2), tree(leaf(3), tree(leaf(1), leaf(0)))), 10 + 20 + 20}, {tree(tree(tree(leaf(0), leaf(2)), leaf(1)), leaf(3)), 100000 + 10 + 20},
	} {
		if got := impl.TreeCost(g, c.x); got != c.want {
			t.Errorf("TreeCost(%v) = %d, want %d", c.x, got, c.want)
		}
	}
}

func TestInvalidTreesHaveNoCost(t *testing.T) {
	for i, x := range invalidTrees() {
		for _, g := range []impl.Graph{chain(), graph(ones(3)), graph([]int{1000, 1, 7}, edge(0, 2, 3))} {
			if n, leaves := impl.TreeCost(g, x), impl.LeavesOf(g, x); n != -1 || leaves != nil {
				t.Errorf("TreeCost and LeavesOf of the invalid tree %d for %v = %d, %v", i, g, n, leaves)
			}
		}
	}
	// A relation that another graph has.
	for n := 1; n <= impl.MaxRelations; n++ {
		g := graph(ones(n))
		for k := range impl.MaxRelations + 1 {
			want := -1
			if k < n {
				want = 0
			}
			if got := impl.TreeCost(g, leaf(k)); got != want {
				t.Errorf("TreeCost of the relation %d for %d relations = %d", k, n, got)
			}
			if k == 0 {
				continue
			}
			if want == 0 {
				want = 1
			}
			if a, b := impl.TreeCost(g, tree(leaf(0), leaf(k))), impl.TreeCost(g, tree(leaf(k), leaf(0))); a != want || b != want {
				t.Errorf("TreeCost of the relations 0 and %d for %d relations = %d and %d", k, n, a, b)
			}
		}
	}
	empty := []impl.JoinTree{}
	if got := impl.TreeCost(chain(), tree(impl.JoinTree{Leaf: 0, Kids: empty}, impl.JoinTree{Leaf: 1, Kids: empty})); got != 10 {
		t.Errorf("TreeCost of relations with empty lists of kids = %d", got)
	}
}

func TestP063TreeCostsAddUp(t *testing.T) {
	m := &maker{state: 63}
	for range 30 {
		g := m.graph()
		for mask := 1; mask < 1<<len(g.Rows); mask++ {
			for _, x := range treesOf(mask) {
				want := 0
				if len(x.Kids) == 2 {
					want = impl.SubsetSize(g, mask) + treeCost(t, g, x.Kids[0]) + treeCost(t, g, x.Kids[1])
					if got := impl.TreeCost(g, tree(x.Kids[1], x.Kids[0])); got != want {
						t.Fatalf("TreeCost(%v, %v) with exchanged kids = %d, want %d", g, x, got, want)
					}
				}
				if got := impl.TreeCost(g, x); got != want {
					t.Fatalf("TreeCost(%v, %v) = %d, want %d", g, x, got, want)
				}
			}
		}
	}
}

func TestBestTree(t *testing.T) {
	pair := func(a int, b int) impl.JoinTree { return tree(leaf(a), leaf(b)) }
	for _, c := range []struct {
		g    impl.Graph
		want impl.JoinTree
		cost int
	}{
		{graph([]int{7}), leaf(0), 0}, {graph([]int{7, 3}), pair(0, 1), 21}, {graph([]int{3, 7}, edge(0, 1, 5)), pair(0, 1), 4}, {chain(), tree(leaf(0), pair(1, 2)), 20},
		// All trees have the same cost.
		{graph(ones(3)), tree(leaf(0), pair(1, 2)), 2}, {graph(ones(4)), tree(leaf(0), tree(leaf(1), pair(2, 3))), 3}, {graph(ones(5)), tree(leaf(0), tree(leaf(1), tree(leaf(2), pair(3, 4)))), 4},
		// The best division has one smallest number.
		{graph([]int{2, 2, 50}), tree(pair(0, 1), leaf(2)), 204}, {graph([]int{2, 50, 2}), tree(leaf(1), pair(0, 2)), 204}, {graph([]int{50, 2, 2}), tree(leaf(0), pair(1, 2)), 204},
		{graph([]int{10, 10, 10, 10}, edge(0, 1, 100), edge(2, 3, 100)), tree(pair(0, 1), pair(2, 3)), 3}, {graph([]int{10, 10, 10, 10}, edge(0, 3, 100), edge(1, 2, 100)), tree(pair(1, 2), pair(0, 3)), 3}, {graph([]int{10, 10, 10, 10}, edge(0, 2, 100), edge(1, 3, 100)), tree(pair(0, 2), pair(1, 3)), 3},
		// The joins in the first and in the second kid of the root have several best divisions.
		{graph([]int{10, 10, 1, 1, 1}, edge(0, 1, 100)), tree(pair(0, 1), tree(leaf(2), pair(3, 4))), 4}, {graph([]int{1, 1, 1, 10, 10}, edge(3, 4, 100)), tree(leaf(0), tree(leaf(1), tree(leaf(2), pair(3, 4)))), 4},
		{graph([]int{1, 1, 1, 10, 10}, edge(3, 4, 50)), tree(tree(leaf(0), pair(1, 2)), pair(3, 4)), 6}, {graph([]int{10, 10, 1, 1, 1}, edge(0, 1, 50)), tree(pair(0, 1), tree(leaf(2), pair(3, 4))), 6},
	} {
		if got, n := impl.BestTree(c.g); !equal(got, c.want) || n != c.cost {
			t.Errorf("BestTree(%v) = %v, %d, want %v, %d", c.g, got, n, c.want, c.cost)
		}
	}
}

func TestP064TheBestTreeIsATree(t *testing.T) {
	m := &maker{state: 64}
	list := validGraphs()
	for range 1000 {
		list = append(list, m.graph())
	}
	for _, g := range list {
		x, n := impl.BestTree(g)
		if got := treeCost(t, g, x); got != n {
			t.Fatalf("BestTree(%v) = %v, %d, but TreeCost is %d", g, x, n, got)
		}
		leaves := impl.LeavesOf(g, x)
		slices.Sort(leaves)
		if !equal(leaves, members(1<<len(g.Rows)-1)) {
			t.Fatalf("BestTree(%v) = %v with the relations %v", g, x, leaves)
		}
	}
}

func TestP065NoTreeIsCheaper(t *testing.T) {
	m := &maker{state: 65}
	ties := 0
	for range 60 {
		g := m.graph()
		best, n := impl.BestTree(g)
		same := 0
		for _, x := range treesOf(1<<len(g.Rows) - 1) {
			cost := treeCost(t, g, x)
			if cost < n || cost == n && compareTrees(x, best) < 0 {
				t.Fatalf("BestTree(%v) = %v, %d, but %v has the cost %d", g, best, n, x, cost)
			}
			if cost == n {
				same++
			}
		}
		// Exchanging the kids of each join always gives a tree of the same cost.
		if same > 1<<(len(g.Rows)-1) {
			ties++
		}
	}
	if ties < 15 {
		t.Errorf("only %d graphs have several best trees", ties)
	}
}

func TestBestOrder(t *testing.T) {
	for _, c := range []struct {
		g    impl.Graph
		want []int
		cost int
	}{
		{graph([]int{7}), []int{0}, 0}, {graph([]int{7, 3}), []int{0, 1}, 21}, {graph([]int{3, 7}), []int{0, 1}, 21}, {chain(), []int{0, 1, 2}, 20},
		{graph(ones(5)), []int{0, 1, 2, 3, 4}, 4}, {graph([]int{5, 4, 3, 2, 1}), []int{3, 4, 2, 1, 0}, 2 + 6 + 24 + 120}, {graph([]int{50, 2, 2}), []int{1, 2, 0}, 204}, {graph([]int{2, 50, 2}), []int{0, 2, 1}, 204},
		{graph([]int{10, 10, 10, 10}, edge(2, 3, 100)), []int{2, 3, 0, 1}, 1 + 10 + 100}, {graph([]int{10, 10, 10, 10}, edge(0, 1, 100), edge(2, 3, 100)), []int{0, 1, 2, 3}, 1 + 10 + 1}, {graph([]int{10, 10, 10, 10}, edge(0, 3, 100), edge(1, 2, 100)), []int{0, 3, 1, 2}, 12},
		// A more expensive beginning is better in the end.
		{graph([]int{2, 2, 100, 100}, edge(0, 2, 20), edge(2, 3, 1000)), []int{0, 2, 3, 1}, 10 + 1 + 2}, {graph([]int{2, 2, 100, 100}, edge(0, 2, 18), edge(2, 3, 1000)), []int{2, 3, 0, 1}, 10 + 1 + 2},
	} {
		if got, n := impl.BestOrder(c.g); !equal(got, c.want) || n != c.cost {
			t.Errorf("BestOrder(%v) = %v, %d, want %v, %d", c.g, got, n, c.want, c.cost)
		}
	}
}

func TestP066NoOrderIsCheaper(t *testing.T) {
	m := &maker{state: 66}
	ties, more := 0, 0
	for range 600 {
		g := m.graph()
		best, n := impl.BestOrder(g)
		if orderCost(g, best) != n {
			t.Fatalf("BestOrder(%v) = %v, %d, but its cost is %d", g, best, n, orderCost(g, best))
		}
		same := 0
		for _, order := range ordersOf(members(1<<len(g.Rows) - 1)) {
			cost := orderCost(g, order)
			if cost < n || cost == n && slices.Compare(order, best) < 0 {
				t.Fatalf("BestOrder(%v) = %v, %d, but %v has the cost %d", g, best, n, order, cost)
			}
			if cost == n {
				same++
			}
		}
		_, least := impl.BestTree(g)
		if n < least {
			t.Fatalf("BestOrder(%v) has the cost %d, BestTree %d", g, n, least)
		}
		if n > least {
			more++
		}
		// Exchanging the first two relations never changes the cost.
		if same > 2 {
			ties++
		}
	}
	if ties < 100 || more < 20 {
		t.Errorf("only %d graphs have several best orders, for only %d a tree is cheaper", ties, more)
	}
}
