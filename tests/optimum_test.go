package tests

import (
	"math"
	"slices"
	"testing"

	"loop.example/queryoptimizer/impl"
)

// recomputed returns costs in which those from a set on that are not given are the smallest ones for the costs before.
func recomputed(g impl.Graph, given map[int]int) []int {
	var costs []int
	for mask := range 1 << len(g.Rows) {
		least := math.MaxInt
		for first := 1; first < mask; first++ {
			if first&mask == first {
				least = min(least, costs[first]+costs[mask-first])
			}
		}
		cost, fixed := given[mask]
		switch {
		case fixed:
		case least == math.MaxInt:
			cost = 0
		default:
			cost = slowSize(g, mask) + least
		}
		costs = append(costs, cost)
	}
	return costs
}

func TestBestCosts(t *testing.T) {
	for _, c := range []struct {
		g    impl.Graph
		want []int
	}{
		{graph([]int{7}), []int{0, 0}}, {graph([]int{7, 3}), []int{0, 0, 0, 21}}, {chain(), []int{0, 0, 0, 10, 0, 100000, 10, 20}}, {graph(ones(3)), []int{0, 0, 0, 1, 0, 1, 1, 2}},
		{graph([]int{2, 3, 5, 7}, edge(0, 3, 4)), []int{0, 0, 0, 6, 0, 10, 15, 36, 0, 3, 21, 13, 35, 20, 120, 65}},
	} {
		if got := impl.BestCosts(c.g); !equal(got, c.want) {
			t.Errorf("BestCosts(%v) = %v, want %v", c.g, got, c.want)
		}
		if !impl.CheckCosts(c.g, c.want) {
			t.Errorf("CheckCosts(%v, %v) is false", c.g, c.want)
		}
	}
}

func TestP067CostsOfAllSetsAreSmallest(t *testing.T) {
	m := &maker{state: 67}
	list := validGraphs()
	for range 40 {
		list = append(list, m.graph())
	}
	for _, g := range list {
		costs := impl.BestCosts(g)
		if len(costs) != 1<<len(g.Rows) || costs[0] != 0 {
			t.Fatalf("BestCosts(%v) = %v", g, costs)
		}
		for mask := 1; mask < len(costs); mask++ {
			_, want := slowBest(g, mask)
			if costs[mask] != want || len(members(mask)) == 1 && costs[mask] != 0 || len(members(mask)) == 2 && costs[mask] != impl.SubsetSize(g, mask) {
				t.Fatalf("BestCosts(%v) = %v, want %d for %d", g, costs, want, mask)
			}
		}
		if _, n := impl.BestTree(g); n != costs[len(costs)-1] {
			t.Fatalf("BestCosts(%v) = %v, but BestTree has the cost %d", g, costs, n)
		}
	}
}

func TestP068OnlyTheSmallestCostsAreAccepted(t *testing.T) {
	m := &maker{state: 68}
	list := validGraphs()
	for range 200 {
		list = append(list, m.graph())
	}
	for _, g := range list {
		costs := impl.BestCosts(g)
		if !impl.CheckCosts(g, costs) {
			t.Fatalf("CheckCosts(%v, %v) is false", g, costs)
		}
		for i, cost := range costs {
			for _, other := range []int{cost - 1, cost + 1, cost * 2, -cost, 0, 1, math.MaxInt, math.MinInt, math.MinInt + slowSize(g, i), cost + 1<<62} {
				wrong := slices.Clone(costs)
				wrong[i] = other
				if impl.CheckCosts(g, wrong) != (other == cost) {
					t.Fatalf("CheckCosts(%v, %v) is %v, but the costs are %v", g, wrong, other != cost, costs)
				}
				// The costs of all larger sets fit to the wrong one.
				wrong = recomputed(g, map[int]int{i: other})
				if impl.CheckCosts(g, wrong) != (other == cost) {
					t.Fatalf("CheckCosts(%v, %v) is %v, but the costs are %v", g, wrong, other != cost, costs)
				}
			}
		}
		for _, wrong := range [][]int{nil, {}, costs[:1], costs[:len(costs)-1], costs[1:], append(slices.Clone(costs), 0), append(slices.Clone(costs), costs...), slices.Concat([]int{0}, costs)} {
			if impl.CheckCosts(g, wrong) {
				t.Fatalf("CheckCosts(%v, %v) is true", g, wrong)
			}
		}
	}
}

func TestP068CostsOfOtherGraphsAreNotAccepted(t *testing.T) {
	m := &maker{state: 680}
	accepted := 0
	for range 2000 {
		g, other := m.graph(), m.graph()
		costs := impl.BestCosts(other)
		if impl.CheckCosts(g, costs) != equal(costs, impl.BestCosts(g)) {
			t.Fatalf("CheckCosts(%v, %v) is wrong", g, costs)
		}
		if impl.CheckCosts(g, costs) {
			accepted++
		}
	}
	if accepted < 20 || accepted > 1500 {
		t.Errorf("CheckCosts accepts the costs of %d of 2000 other graphs", accepted)
	}
	// Costs that are attained, but not the smallest ones, and ones that are not attained.
	if impl.CheckCosts(chain(), []int{0, 0, 0, 10, 0, 100000, 10, 100010}) || impl.CheckCosts(chain(), []int{0, 0, 0, 10, 0, 100000, 10, 19}) || impl.CheckCosts(chain(), make([]int, 8)) {
		t.Error("CheckCosts accepts costs that are not the smallest ones")
	}
}

func TestGreedyTree(t *testing.T) {
	pair := func(a int, b int) impl.JoinTree { return tree(leaf(a), leaf(b)) }
	for _, c := range []struct {
		g    impl.Graph
		want impl.JoinTree
		cost int
	}{
		{graph([]int{7}), leaf(0), 0}, {graph([]int{7, 3}), pair(0, 1), 21}, {chain(), tree(pair(0, 1), leaf(2)), 20},
		// Of several pairs, the first place of the first tree, then of the second one.
		{graph(ones(3)), tree(pair(0, 1), leaf(2)), 2}, {graph(ones(4)), tree(tree(pair(0, 1), leaf(2)), leaf(3)), 3}, {graph(ones(5)), tree(tree(tree(pair(0, 1), leaf(2)), leaf(3)), leaf(4)), 4},
		{graph([]int{2, 3, 2, 2}), tree(pair(0, 2), pair(1, 3)), 4 + 6 + 24}, {graph([]int{3, 2, 2, 2}), tree(pair(0, 3), pair(1, 2)), 4 + 6 + 24}, {graph([]int{10, 9, 2, 5, 2}, edge(3, 4, 2)), tree(pair(0, 1), tree(pair(2, 4), leaf(3))), 4 + 10 + 90 + 900},
		// The join takes the place of the earlier tree.
		{graph([]int{9, 2, 9, 3}), tree(tree(leaf(0), pair(1, 3)), leaf(2)), 6 + 54 + 486}, {graph([]int{4, 9, 1, 4, 4}), tree(tree(pair(0, 2), leaf(3)), pair(1, 4)), 4 + 16 + 36 + 576},
		{graph([]int{10, 10, 10, 10}, edge(2, 3, 100), edge(0, 1, 50)), tree(pair(0, 1), pair(2, 3)), 1 + 2 + 2}, {graph([]int{10, 10, 10, 10}, edge(0, 3, 100), edge(1, 2, 50)), tree(pair(0, 3), pair(1, 2)), 1 + 2 + 2}, {graph([]int{10, 10, 10, 10}, edge(1, 2, 100), edge(0, 3, 50)), tree(pair(0, 3), pair(1, 2)), 1 + 2 + 2},
	} {
		if got, n := impl.GreedyTree(c.g); !equal(got, c.want) || n != c.cost {
			t.Errorf("GreedyTree(%v) = %v, %d, want %v, %d", c.g, got, n, c.want, c.cost)
		}
	}
}

func TestP069AGreedyTreeIsNotBetterThanTheBestOne(t *testing.T) {
	m := &maker{state: 69}
	worse := 0
	for _, g := range validGraphs() {
		greedyTree(t, g)
	}
	for range 1500 {
		g := m.graph()
		n := greedyTree(t, g)
		if _, least := impl.BestTree(g); n > least {
			worse++
		}
	}
	if worse < 20 {
		t.Errorf("only %d greedy trees are more expensive than the best ones", worse)
	}
}

// greedyTree returns the cost of GreedyTree, and fails if the tree is wrong.
func greedyTree(t *testing.T, g impl.Graph) int {
	t.Helper()
	x, n := impl.GreedyTree(g)
	if treeCost(t, g, x) != n || maskOf(x) != 1<<len(g.Rows)-1 {
		t.Fatalf("GreedyTree(%v) = %v, %d", g, x, n)
	}
	if _, least := impl.BestTree(g); n < least {
		t.Fatalf("GreedyTree(%v) = %v, %d, but BestTree has the cost %d", g, x, n, least)
	}
	var list []impl.JoinTree
	for i := range g.Rows {
		list = append(list, leaf(i))
	}
	if want := slowGreedy(g, list); !equal(x, want) {
		t.Fatalf("GreedyTree(%v) = %v, want %v", g, x, want)
	}
	return n
}

func TestP070LeavesAreTheRelationsOfBothKids(t *testing.T) {
	for _, c := range []struct {
		x    impl.JoinTree
		want []int
	}{
		{leaf(0), []int{0}}, {leaf(2), []int{2}}, {tree(leaf(2), leaf(0)), []int{2, 0}}, {tree(leaf(1), tree(leaf(2), leaf(0))), []int{1, 2, 0}}, {tree(tree(leaf(1), leaf(2)), leaf(0)), []int{1, 2, 0}},
	} {
		if got := impl.LeavesOf(chain(), c.x); !equal(got, c.want) {
			t.Errorf("LeavesOf(%v) = %v, want %v", c.x, got, c.want)
		}
	}
	g := graph([]int{3, 1, 4, 1, 5}, edge(0, 1, 2))
	for mask := 1; mask < 32; mask++ {
		for _, x := range treesOf(mask) {
			leaves := impl.LeavesOf(g, x)
			if len(x.Kids) == 2 && !equal(leaves, slices.Concat(impl.LeavesOf(g, x.Kids[0]), impl.LeavesOf(g, x.Kids[1]))) {
				t.Fatalf("LeavesOf(%v) = %v", x, leaves)
			}
			sorted := slices.Sorted(slices.Values(leaves))
			if !equal(sorted, members(mask)) {
				t.Fatalf("LeavesOf(%v) = %v, but its relations are %v", x, leaves, members(mask))
			}
		}
	}
}
