package labels_test

import (
	"slices"
	"testing"

	"girouette/api"
	"girouette/labels"
)

// caterpillar is the definition.
func caterpillar(g graph) bool {
	if len(g.edges) != g.n-1 || !connected(g) {
		return false
	}
	var many [7]int
	for _, edge := range g.edges {
		many[edge[0]]++
		many[edge[1]]++
	}
	var left []int
	for node := range g.n {
		if many[node] != 1 {
			left = append(left, node)
		}
	}
	return isWay(g, nil, left)
}

// connected is whether an edge leads out of each set of some of the nodes.
func connected(g graph) bool {
	for set := 1; set < 1<<g.n-1; set++ {
		if !slices.ContainsFunc(g.edges, func(edge [2]int) bool { return set>>edge[0]&1 != set>>edge[1]&1 }) {
			return false
		}
	}
	return true
}

// isWay is whether the nodes in some order come after those of begun such that each one and the next have an edge. In a tree there are no other edges then.
func isWay(g graph, begun, nodes []int) bool {
	if len(nodes) == 0 {
		return true
	}
	for i, node := range nodes {
		if len(begun) > 0 {
			last := begun[len(begun)-1]
			if !slices.Contains(g.edges, [2]int{min(last, node), max(last, node)}) {
				continue
			}
		}
		rest := slices.Delete(slices.Clone(nodes), i, i+1)
		if isWay(g, append(slices.Clone(begun), node), rest) {
			return true
		}
	}
	return false
}

// TestCaterpillars: P2.5, and that each caterpillar has labels that part (P2.8).
func TestCaterpillars(t *testing.T) {
	numbers := map[bool]int{}
	check := func(g graph) {
		want := caterpillar(g)
		numbers[want]++
		if got, e := labels.IsCaterpillar(g.n, g.edges); e != api.OK || got != want {
			t.Error(g, got, e)
		}
		l, e := labels.Crawl(g.n, g.edges)
		if !want {
			if e != api.ErrNone || len(l) > 0 {
				t.Error(g, l, e)
			}
			return
		}
		if e != api.OK || !graceful(g, l) {
			t.Error(g, l, e)
			return
		}
		if _, ok := parting(g, l); !ok {
			t.Error(g, l)
		}
		if _, ok, e := labels.Part(g.n, g.edges); !ok || e != api.OK {
			t.Error(g, ok, e)
		}
	}
	eachSmall(5, check)
	for n := 2; n <= 7; n++ {
		for _, g := range treesOn(n) {
			check(g)
		}
	}
	if numbers[true] < 10000 || numbers[false] < 1000 {
		t.Error(numbers)
	}
}

func TestFewCaterpillars(t *testing.T) {
	for _, c := range []struct {
		graph
		want bool
	}{
		{wayOf(2), true},
		{wayOf(7), true},
		{starOf(7), true},
		{graph{7, [][2]int{{0, 1}, {0, 2}, {1, 3}, {1, 4}, {4, 5}, {4, 6}}}, true},
		{spider, false},
		{ring, false},
		{apart, false},
		// Two parts, with as many edges as a tree.
		{graph{4, [][2]int{{0, 1}, {0, 2}, {1, 2}}}, false},
		{graph{5, [][2]int{{0, 1}, {2, 3}, {2, 4}, {3, 4}}}, false},
		{graph{3, [][2]int{{0, 1}}}, false},
		{full, false},
	} {
		if got, e := labels.IsCaterpillar(c.n, c.edges); got != c.want || e != api.OK {
			t.Error(c, got, e)
		}
	}
}
