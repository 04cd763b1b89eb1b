package orders_test

import (
	"fmt"
	"math"
	"slices"
	"testing"

	"girouette/api"
	"girouette/orders"
)

type graph struct {
	n     int
	edges [][2]int
}

// far is numbers that are far from every range.
var far = []int{math.MinInt, -1, 7, 8, math.MaxInt}

// wayOf, ringOf, starOf and fullOf are graphs with n nodes.
func wayOf(n int) graph {
	g := graph{n: n}
	for i := range n - 1 {
		g.edges = append(g.edges, [2]int{i, i + 1})
	}
	return g
}

func ringOf(n int) graph {
	return graph{n, slices.Insert(wayOf(n).edges, 1, [2]int{0, n - 1})}
}

func starOf(n int) graph {
	g := graph{n: n}
	for i := 1; i < n; i++ {
		g.edges = append(g.edges, [2]int{0, i})
	}
	return g
}

func fullOf(n int) graph {
	g := graph{n: n}
	for i := range n {
		for k := i + 1; k < n; k++ {
			g.edges = append(g.edges, [2]int{i, k})
		}
	}
	return g
}

// others is the graph of the pairs that are not edges.
func (g graph) others() graph {
	return graph{g.n, slices.DeleteFunc(fullOf(g.n).edges, func(pair [2]int) bool { return slices.Contains(g.edges, pair) })}
}

// joins is whether there is an edge between the nodes.
func (g graph) joins(a, b int) bool {
	return slices.Contains(g.edges, [2]int{min(a, b), max(a, b)})
}

// arrows is all arrows of the graph, rising.
func (g graph) arrows() [][2]int {
	var l [][2]int
	for a := range g.n {
		for b := range g.n {
			if g.joins(a, b) {
				l = append(l, [2]int{a, b})
			}
		}
	}
	return l
}

// graphsOn is all graphs with n nodes.
func graphsOn(n int) []graph {
	all := fullOf(n).edges
	var l []graph
	for set := range 1 << len(all) {
		g := graph{n: n}
		for i, edge := range all {
			if set>>i&1 == 1 {
				g.edges = append(g.edges, edge)
			}
		}
		l = append(l, g)
	}
	return l
}

// large is some graphs with six and seven nodes.
func large() []graph {
	l := []graph{
		{6, nil}, {7, nil}, wayOf(6), wayOf(7), ringOf(6), ringOf(7), starOf(6), starOf(7), fullOf(6), fullOf(7),
		{7, [][2]int{{5, 6}}},
		// Three nodes that are joined, each with an arm of one more node: a clash without a ring of five.
		{6, [][2]int{{0, 1}, {0, 2}, {0, 3}, {1, 2}, {1, 4}, {2, 5}}},
		// A ring of five and two more nodes.
		{7, [][2]int{{0, 1}, {0, 4}, {1, 2}, {2, 3}, {3, 4}, {5, 6}}},
		// Six nodes in two threes, all edges between these.
		{6, [][2]int{{0, 3}, {0, 4}, {0, 5}, {1, 3}, {1, 4}, {1, 5}, {2, 3}, {2, 4}, {2, 5}}},
		// Three arms of two nodes: an order, but no lines.
		{7, [][2]int{{0, 1}, {0, 3}, {0, 5}, {1, 2}, {3, 4}, {5, 6}}},
	}
	for _, g := range slices.Clone(l) {
		l = append(l, g.others())
	}
	for i, g := range graphsOn(6) {
		if i%61 == 0 {
			l = append(l, g)
		}
	}
	// A node more, with edges to the odd nodes, makes graphs with seven of these.
	for i, g := range graphsOn(6) {
		if i%311 == 0 {
			edges := slices.Concat(g.edges, [][2]int{{1, 6}, {3, 6}, {5, 6}})
			l = append(l, graph{7, risen(edges)})
		}
	}
	return l
}

// eachGraph calls do for all graphs with up to most nodes, and for the large ones.
func eachGraph(most int, do func(g graph)) {
	for n := 1; n <= most; n++ {
		for _, g := range graphsOn(n) {
			do(g)
		}
	}
	for _, g := range large() {
		do(g)
	}
}

// risen is the pairs, rising.
func risen(pairs [][2]int) [][2]int {
	l := slices.Clone(pairs)
	slices.SortFunc(l, func(a, b [2]int) int { return slices.Compare(a[:], b[:]) })
	return l
}

// reversed is the arrows in the other direction, rising.
func reversed(arrows [][2]int) [][2]int {
	var l [][2]int
	for _, x := range arrows {
		l = append(l, [2]int{x[1], x[0]})
	}
	return risen(l)
}

// isOrder is whether the arrows are an order of the graph, by the definition.
func isOrder(g graph, arrows [][2]int) bool {
	if !slices.Equal(arrows, risen(arrows)) || len(arrows) != len(g.edges) {
		return false
	}
	for _, edge := range g.edges {
		if slices.Contains(arrows, edge) == slices.Contains(arrows, [2]int{edge[1], edge[0]}) {
			return false
		}
	}
	for _, x := range arrows {
		for _, y := range arrows {
			if x[1] == y[0] && !slices.Contains(arrows, [2]int{x[0], y[1]}) {
				return false
			}
		}
	}
	return true
}

// ordersOf is all orders of the graph: each edge in each direction.
func ordersOf(g graph) [][][2]int {
	var l [][][2]int
	for set := range 1 << len(g.edges) {
		arrows := slices.Clone(g.edges)
		for i, edge := range g.edges {
			if set>>i&1 == 1 {
				arrows[i] = [2]int{edge[1], edge[0]}
			}
		}
		if arrows = risen(arrows); isOrder(g, arrows) {
			l = append(l, arrows)
		}
	}
	return l
}

// permutations is all lists of n nodes, each once.
func permutations(n int) [][]int {
	if n == 0 {
		return [][]int{nil}
	}
	var l [][]int
	for _, p := range permutations(n - 1) {
		for i := range n {
			l = append(l, slices.Insert(slices.Clone(p), i, n-1))
		}
	}
	return l
}

// drawnBy is the edges and the arrows that the lines draw, by the definitions.
func drawnBy(n int, lines [2][]int) (edges, arrows [][2]int) {
	for a := range n {
		for b := range n {
			one := slices.Index(lines[0], a) < slices.Index(lines[0], b)
			other := slices.Index(lines[1], a) < slices.Index(lines[1], b)
			if a < b && one != other {
				edges = append(edges, [2]int{a, b})
			}
			if a != b && one && other {
				arrows = append(arrows, [2]int{a, b})
			}
		}
	}
	return edges, arrows
}

// areLines is whether both are lists of all nodes, each once.
func areLines(n int, lines [2][]int) bool {
	for _, line := range lines {
		if len(line) != n {
			return false
		}
		for node := range n {
			if !slices.Contains(line, node) {
				return false
			}
		}
	}
	return true
}

// oriented is an order that Orient returns, and whether there is one.
func oriented(t *testing.T, g graph) ([][2]int, bool) {
	t.Helper()
	arrows, ok, e := orders.Orient(g.n, g.edges)
	if e != api.OK || ok && !isOrder(g, arrows) || !ok && len(arrows) > 0 {
		t.Error("Orient", g, arrows, ok, e)
	}
	return arrows, ok
}

// key is what a list is written as.
func key(l any) string { return fmt.Sprint(l) }
