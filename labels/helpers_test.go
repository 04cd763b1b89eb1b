package labels_test

import (
	"slices"
	"testing"
)

type graph struct {
	n     int
	edges [][2]int
}

// wayOf, ringOf, starOf and fullOf are graphs with n nodes.
func wayOf(n int) graph {
	g := graph{n: n}
	for i := range n - 1 {
		g.edges = append(g.edges, [2]int{i, i + 1})
	}
	return g
}

func ringOf(n int) graph {
	g := wayOf(n)
	return graph{n, slices.Insert(g.edges, 1, [2]int{0, n - 1})}
}

func starOf(n int) graph {
	g := graph{n: n}
	for i := range n - 1 {
		g.edges = append(g.edges, [2]int{0, i + 1})
	}
	return g
}

func fullOf(n int) graph {
	return graph{n, pairsOf(n)}
}

var (
	way    = wayOf(3)
	ring   = ringOf(5)
	full   = fullOf(4)
	spider = graph{7, [][2]int{{0, 1}, {0, 3}, {0, 5}, {1, 2}, {3, 4}, {5, 6}}}
	// apart has two edges that do not meet, and one node without an edge.
	apart = graph{5, [][2]int{{0, 1}, {2, 3}}}
)

// pairsOf is all pairs of n nodes.
func pairsOf(n int) [][2]int {
	var l [][2]int
	for k := range n {
		for i := range k {
			l = append(l, [2]int{i, k})
		}
	}
	slices.SortFunc(l, func(a, b [2]int) int { return slices.Compare(a[:], b[:]) })
	return l
}

// graphsOn is all graphs on n nodes.
func graphsOn(n int) []graph {
	all := pairsOf(n)
	var l []graph
	for set := 1; set < 1<<len(all); set++ {
		g := graph{n: n}
		for i, edge := range all {
			if set>>i&1 == 1 {
				g.edges = append(g.edges, edge)
			}
		}
		if len(g.edges) <= 10 {
			l = append(l, g)
		}
	}
	return l
}

// eachSmall calls do for all graphs on from 2 to most nodes, and for some on six and seven.
func eachSmall(most int, do func(g graph)) {
	for n := 2; n <= most; n++ {
		for _, g := range graphsOn(n) {
			do(g)
		}
	}
	for _, g := range []graph{
		wayOf(6), wayOf(7), ringOf(6), ringOf(7), starOf(6), starOf(7), spider,
		{6, [][2]int{{0, 3}, {0, 4}, {0, 5}, {1, 3}, {1, 4}, {1, 5}, {2, 3}, {2, 4}, {2, 5}}},
		{7, [][2]int{{0, 6}, {1, 6}, {2, 6}, {3, 6}, {4, 6}, {5, 6}}},
		{7, [][2]int{{5, 6}}},
		{7, [][2]int{{0, 1}, {0, 2}, {1, 2}, {3, 4}, {3, 5}, {4, 5}}},
		{7, [][2]int{{0, 1}, {0, 2}, {0, 3}, {1, 2}, {1, 3}, {2, 3}, {3, 4}, {4, 5}, {4, 6}, {5, 6}}},
		{7, [][2]int{{0, 5}, {0, 6}, {1, 5}, {1, 6}, {2, 5}, {2, 6}, {3, 5}, {3, 6}, {4, 5}, {4, 6}}},
		{6, [][2]int{{0, 1}, {0, 2}, {0, 3}, {0, 4}, {0, 5}, {1, 2}, {2, 3}, {3, 4}, {4, 5}}},
	} {
		do(g)
	}
}

// treesOn is all trees on n nodes, by lists of n - 2 nodes (Pruefer).
func treesOn(n int) []graph {
	var l []graph
	code := make([]int, n-2)
	for {
		l = append(l, treeOf(n, code))
		i := n - 3
		for ; i >= 0 && code[i] == n-1; i-- {
			code[i] = 0
		}
		if i < 0 {
			return l
		}
		code[i]++
	}
}

func treeOf(n int, code []int) graph {
	many := slices.Repeat([]int{1}, n)
	for _, node := range code {
		many[node]++
	}
	g := graph{n: n}
	add := func(a, b int) {
		g.edges = append(g.edges, [2]int{min(a, b), max(a, b)})
		many[a]--
		many[b]--
	}
	for _, node := range code {
		add(slices.Index(many, 1), node)
	}
	last := slices.Index(many, 1)
	many[last] = 0
	other := slices.Index(many, 1)
	many[last] = 1
	add(last, other)
	slices.SortFunc(g.edges, func(a, b [2]int) int { return slices.Compare(a[:], b[:]) })
	return g
}

// eachLabels calls do for all lists of n different numbers from 0 to m, rising.
func eachLabels(n, m int, do func(labels []int)) {
	var grow func(l []int)
	grow = func(l []int) {
		if len(l) == n {
			do(l)
			return
		}
		for label := 0; label <= m; label++ {
			if !slices.Contains(l, label) {
				grow(append(l, label))
			}
		}
	}
	grow(make([]int, 0, n))
}

// graceful is the definition.
func graceful(g graph, labels []int) bool {
	m := len(g.edges)
	if len(labels) != g.n {
		return false
	}
	for i, a := range labels {
		for k, b := range labels {
			if i != k && a == b || a < 0 || a > m {
				return false
			}
		}
	}
	for want := 1; want <= m; want++ {
		times := 0
		for _, edge := range g.edges {
			if a, b := labels[edge[0]], labels[edge[1]]; max(a, b)-min(a, b) == want {
				times++
			}
		}
		if times != 1 {
			return false
		}
	}
	return true
}

// parting is the least number by which labels part, by the definition.
func parting(g graph, labels []int) (int, bool) {
	for c := -1; c <= len(g.edges)+1; c++ {
		good := true
		for _, edge := range g.edges {
			good = good && (labels[edge[0]] <= c) != (labels[edge[1]] <= c)
		}
		if good {
			return c, true
		}
	}
	return 0, false
}

func same(a, b []int) bool { return slices.Equal(a, b) }

func TestNumbersOfGraphs(t *testing.T) {
	for n, want := range map[int]int{2: 1, 3: 7, 4: 63, 5: 1023} {
		if got := len(graphsOn(n)); got != want {
			t.Error(n, got)
		}
	}
	// Cayley's numbers; all trees are different ones.
	for n, want := range map[int]int{2: 1, 3: 3, 4: 16, 5: 125, 6: 1296, 7: 16807} {
		seen := map[[6][2]int]bool{}
		for _, g := range treesOn(n) {
			var key [6][2]int
			copy(key[:], g.edges)
			seen[key] = true
		}
		if len(seen) != want {
			t.Error(n, len(seen))
		}
	}
}
