package orders_test

import (
	"math"
	"slices"
	"testing"

	"girouette/api"
	"girouette/orders"
)

// asGraph is the graph with the edges between the nodes of the arrows.
func asGraph(n int, arrows [][2]int) graph {
	g := graph{n: n}
	for _, x := range arrows {
		g.edges = append(g.edges, [2]int{min(x[0], x[1]), max(x[0], x[1])})
	}
	g.edges = slices.Compact(risen(g.edges))
	return g
}

// eachOrder calls do for all orders on up to four nodes, and for those that Orient finds on more.
func eachOrder(t *testing.T, do func(n int, arrows [][2]int)) {
	for n := 1; n <= 4; n++ {
		for _, g := range graphsOn(n) {
			for _, arrows := range ordersOf(g) {
				do(n, arrows)
			}
		}
	}
	eachGraph(5, func(g graph) {
		if arrows, ok := oriented(t, g); ok {
			do(g.n, arrows)
			do(g.n, reversed(arrows))
		}
	})
}

// TestAllArrows: P3.4, CheckOrder of all sets of arrows on up to four nodes.
func TestAllArrows(t *testing.T) {
	many := 0
	for n := 1; n <= 4; n++ {
		all := fullOf(n).arrows()
		for set := range 1 << len(all) {
			var arrows [][2]int
			for i, x := range all {
				if set>>i&1 == 1 {
					arrows = append(arrows, x)
				}
			}
			want := api.ErrOrder
			if isOrder(asGraph(n, arrows), arrows) {
				want = api.OK
				many++
			}
			if e := orders.CheckOrder(n, arrows); e != want {
				t.Error(n, arrows, e, want)
			}
		}
	}
	// There are 1, 3, 19 and 219 orders on 1, 2, 3 and 4 nodes.
	if many != 1+3+19+219 {
		t.Error(many)
	}
}

func TestCheckOrder(t *testing.T) {
	eachOrder(t, func(n int, arrows [][2]int) {
		if e := orders.CheckOrder(n, arrows); e != api.OK {
			t.Error(n, arrows, e)
		}
	})
	for _, c := range []struct {
		n      int
		arrows [][2]int
		want   api.Errno
	}{
		{1, nil, api.OK},
		{7, [][2]int{}, api.OK},
		{7, fullOf(7).edges, api.OK},
		{2, [][2]int{{1, 0}}, api.OK},
		{3, [][2]int{{0, 2}, {1, 0}, {1, 2}}, api.OK},
		{4, [][2]int{{0, 1}, {0, 3}, {2, 1}, {2, 3}}, api.OK},
		{0, nil, api.ErrArg},
		{8, nil, api.ErrArg},
		{math.MinInt, [][2]int{{0, 0}}, api.ErrArg},
		{math.MaxInt, [][2]int{{0, 1}}, api.ErrArg},
		{1, [][2]int{{0, 0}}, api.ErrOrder},
		{3, [][2]int{{1, 1}}, api.ErrOrder},
		{3, [][2]int{{0, 3}}, api.ErrOrder},
		{3, [][2]int{{3, 0}}, api.ErrOrder},
		{3, [][2]int{{-1, 0}}, api.ErrOrder},
		{3, [][2]int{{0, -1}}, api.ErrOrder},
		{7, [][2]int{{math.MinInt, math.MaxInt}}, api.ErrOrder},
		{7, [][2]int{{0, 7}}, api.ErrOrder},
		{3, [][2]int{{0, 1}, {0, 1}}, api.ErrOrder},
		{3, [][2]int{{0, 2}, {0, 1}}, api.ErrOrder},
		{3, [][2]int{{2, 1}, {0, 1}}, api.ErrOrder},
		{3, [][2]int{{0, 1}, {1, 0}}, api.ErrOrder},
		{3, [][2]int{{0, 1}, {1, 2}}, api.ErrOrder},
		{3, [][2]int{{0, 1}, {1, 2}, {2, 0}}, api.ErrOrder},
		{3, [][2]int{{0, 1}, {1, 2}, {0, 2}}, api.ErrOrder},
		{4, [][2]int{{0, 1}, {0, 2}, {1, 2}, {2, 3}}, api.ErrOrder},
		{7, make([][2]int, 100000), api.ErrOrder},
	} {
		if e := orders.CheckOrder(c.n, c.arrows); e != c.want {
			t.Error(c, e)
		}
	}
}

// TestTurned: P3.4.
func TestTurned(t *testing.T) {
	eachOrder(t, func(n int, arrows [][2]int) {
		got, e := orders.Turned(n, arrows)
		if e != api.OK || !slices.Equal(got, reversed(arrows)) || orders.CheckOrder(n, got) != api.OK {
			t.Error(n, arrows, got, e)
		}
		if again, e := orders.Turned(n, got); e != api.OK || !slices.Equal(again, arrows) {
			t.Error(n, arrows, again, e)
		}
	})
	for _, c := range [][2][][2]int{
		{nil, nil},
		{{{0, 1}, {0, 2}, {1, 2}}, {{1, 0}, {2, 0}, {2, 1}}},
		{{{0, 3}, {1, 2}}, {{2, 1}, {3, 0}}},
	} {
		if got, e := orders.Turned(4, c[0]); e != api.OK || !slices.Equal(got, c[1]) {
			t.Error(c, got, e)
		}
	}
}

// longestTo is the most nodes of a chain that ends with the node.
func longestTo(arrows [][2]int, node int) int {
	most := 0
	for _, x := range arrows {
		if x[1] == node {
			most = max(most, longestTo(arrows, x[0]))
		}
	}
	return most + 1
}

// checkHeights: the chain and the layers of an order, by their definitions, and that the greatest layer is the number of nodes of the chain less 1 (P3.7).
func checkHeights(t *testing.T, n int, arrows [][2]int) {
	t.Helper()
	most := 0
	var want []int
	for node := range n {
		most = max(most, longestTo(arrows, node))
		want = append(want, longestTo(arrows, node)-1)
	}
	layers, e := orders.Layers(n, arrows)
	if e != api.OK || !slices.Equal(layers, want) {
		t.Error("Layers", n, arrows, layers, e)
	}
	chain, e := orders.Chain(n, arrows)
	if e != api.OK || len(chain) != most || most != slices.Max(want)+1 {
		t.Error("Chain", n, arrows, chain, e)
		return
	}
	if chain[0] < 0 || chain[0] >= n {
		t.Error("Chain", n, arrows, chain)
	}
	for i, node := range chain[1:] {
		if !slices.Contains(arrows, [2]int{chain[i], node}) {
			t.Error("Chain", n, arrows, chain)
		}
	}
}

// TestHeights: P3.4 and P3.7; the layers are as many colours as a chain has nodes, and no edge has two nodes of a colour.
func TestHeights(t *testing.T) {
	eachOrder(t, func(n int, arrows [][2]int) {
		checkHeights(t, n, arrows)
		layers, _ := orders.Layers(n, arrows)
		for _, x := range arrows {
			if len(layers) == n && layers[x[0]] >= layers[x[1]] {
				t.Error(n, arrows, layers)
			}
		}
	})
	for _, c := range []struct {
		n             int
		arrows        [][2]int
		chain, layers []int
	}{
		{1, nil, []int{0}, []int{0}},
		{3, fullOf(3).edges, []int{0, 1, 2}, []int{0, 1, 2}},
		{7, fullOf(7).edges, []int{0, 1, 2, 3, 4, 5, 6}, []int{0, 1, 2, 3, 4, 5, 6}},
		{3, [][2]int{{1, 0}, {2, 0}, {2, 1}}, []int{2, 1, 0}, []int{2, 1, 0}},
		{4, [][2]int{{1, 0}, {1, 3}, {3, 0}}, []int{1, 3, 0}, []int{2, 0, 0, 1}},
	} {
		chain, e := orders.Chain(c.n, c.arrows)
		layers, f := orders.Layers(c.n, c.arrows)
		if e != api.OK || f != api.OK || !slices.Equal(chain, c.chain) || !slices.Equal(layers, c.layers) {
			t.Error(c, chain, layers, e, f)
		}
	}
	if layers, e := orders.Layers(4, starOf(4).edges); e != api.OK || !slices.Equal(layers, []int{0, 1, 1, 1}) {
		t.Error(layers, e)
	}
	if layers, e := orders.Layers(7, nil); e != api.OK || !slices.Equal(layers, make([]int, 7)) {
		t.Error(layers, e)
	}
}

// TestCount: P3.4 by all directions of the edges, and P3.9.
func TestCount(t *testing.T) {
	check := func(g graph, want int) {
		got, e := orders.Count(g.n, g.edges)
		if e != api.OK || got != want {
			t.Error(g, got, e, want)
		}
		if len(g.edges) > 0 && got%2 != 0 || len(g.edges) == 0 && got != 1 {
			t.Error(g, got)
		}
		if classes, _ := orders.Classes(g.n, g.edges); classes == 2 && got > 2 || classes == 0 && got != 1 {
			t.Error(g, got, classes)
		}
	}
	for n := 1; n <= 5; n++ {
		for _, g := range graphsOn(n) {
			check(g, len(ordersOf(g)))
		}
	}
	for i, g := range graphsOn(6) {
		if i%127 == 0 && len(g.edges) <= 9 {
			check(g, len(ordersOf(g)))
		}
	}
	factorial := 1
	for n := 1; n <= 6; n++ {
		factorial *= n
		check(fullOf(n), factorial)
	}
	check(ringOf(4), 2)
	check(ringOf(5), 0)
	check(graph{6, [][2]int{{0, 1}, {2, 3}, {4, 5}}}, 8)
}

func TestCountOfSevenNodes(t *testing.T) {
	for _, c := range []struct {
		graph
		want api.Errno
	}{
		{graph{6, nil}, api.OK},
		{graph{7, nil}, api.ErrArg},
		{fullOf(7), api.ErrArg},
		{graph{7, [][2]int{{1, 0}}}, api.ErrGraph},
		{graph{8, nil}, api.ErrArg},
		{graph{0, nil}, api.ErrArg},
	} {
		if got, e := orders.Count(c.n, c.edges); e != c.want || got != 0 && e != api.OK {
			t.Error(c, got, e)
		}
	}
}
