package orders_test

import (
	"math"
	"slices"
	"testing"

	"girouette/api"
	"girouette/orders"
)

// isClash is the definition.
func isClash(g graph, l [][2]int) bool {
	arrows := g.arrows()
	for i, x := range l {
		if !slices.Contains(arrows, x) || i > 0 && !forces(g, l[i-1], x) {
			return false
		}
	}
	return len(l) > 0 && l[len(l)-1] == [2]int{l[0][1], l[0][0]}
}

// fewest is the number of arrows of the shortest clash, or 0.
func fewest(g graph) int {
	least := 0
	for _, x := range g.arrows() {
		if steps, ok := reach(g, x)[[2]int{x[1], x[0]}]; ok && (least == 0 || steps+1 < least) {
			least = steps + 1
		}
	}
	return least
}

// TestEitherOr: P3.3, and that there is an order just if there is no clash (P3.6).
func TestEitherOr(t *testing.T) {
	numbers := map[bool]int{}
	eachGraph(5, func(g graph) {
		_, ok := oriented(t, g)
		numbers[ok]++
		l, clash, e := orders.Clash(g.n, g.edges)
		if e != api.OK || clash == ok || len(l) != fewest(g) || clash && !isClash(g, l) {
			t.Error(g, l, clash, ok, e)
		}
		if is, e := orders.IsClash(g.n, g.edges, l); is != clash || e != api.OK {
			t.Error(g, l, is, e)
		}
	})
	if numbers[true] < 1000 || numbers[false] < 100 {
		t.Error(numbers)
	}
}

// TestOrientFindsAll: of graphs with few nodes Orient finds an order if any direction of the edges is one.
func TestOrientFindsAll(t *testing.T) {
	for n := 1; n <= 5; n++ {
		for _, g := range graphsOn(n) {
			if _, ok := oriented(t, g); ok != (len(ordersOf(g)) > 0) {
				t.Error(g, ok)
			}
		}
	}
}

func TestFewClashes(t *testing.T) {
	for _, c := range []struct {
		graph
		many int
	}{
		{graph{1, nil}, 0}, {wayOf(2), 0}, {ringOf(4), 0}, {ringOf(5), 6}, {ringOf(6), 0}, {ringOf(7), 8}, {fullOf(7), 0},
	} {
		l, ok, e := orders.Clash(c.n, c.edges)
		if e != api.OK || ok != (c.many > 0) || len(l) != c.many {
			t.Error(c, l, ok, e)
		}
		if arrows, order := oriented(t, c.graph); order == ok {
			t.Error(c, arrows, order)
		}
	}
}

// TestIsClash: clashes that are changed at one place, and lists that have arrows twice.
func TestIsClash(t *testing.T) {
	check := func(g graph, l [][2]int) bool {
		got, e := orders.IsClash(g.n, g.edges, l)
		if e != api.OK || got != isClash(g, l) {
			t.Error(g, l, got, e)
		}
		return got
	}
	for _, g := range large() {
		l, ok, _ := orders.Clash(g.n, g.edges)
		if !ok {
			continue
		}
		for i := range l {
			if check(g, l[:i]) || check(g, l[i+1:]) {
				t.Error(g, l, i)
			}
			twice := slices.Insert(slices.Clone(l), i, l[i])
			if !check(g, twice) {
				t.Error(g, twice)
			}
			for a := -1; a <= g.n; a++ {
				for b := -1; b <= g.n; b++ {
					other := slices.Clone(l)
					other[i] = [2]int{a, b}
					check(g, other)
				}
			}
		}
	}
}

func TestIsClashOfOtherLists(t *testing.T) {
	ring := ringOf(5)
	for i, c := range []struct {
		l    [][2]int
		want bool
	}{
		{nil, false},
		{[][2]int{}, false},
		{[][2]int{{0, 1}}, false},
		{[][2]int{{0, 0}}, false},
		{[][2]int{{0, 2}}, false},
		{[][2]int{{9, 9}}, false},
		{[][2]int{{0, 1}, {1, 0}}, false},
		{[][2]int{{0, 2}, {2, 0}}, false},
		{[][2]int{{0, 1}, {0, 4}, {3, 4}, {3, 2}, {1, 2}, {1, 0}}, true},
		{[][2]int{{1, 0}, {1, 2}, {3, 2}, {3, 4}, {0, 4}, {0, 1}}, true},
		{[][2]int{{0, 1}, {0, 1}, {0, 4}, {0, 1}, {0, 4}, {3, 4}, {3, 2}, {1, 2}, {1, 0}, {1, 0}}, true},
		{[][2]int{{0, 1}, {0, 4}, {3, 4}, {3, 2}, {1, 2}, {1, 0}, {1, 2}}, false},
		{[][2]int{{0, 1}, {0, 4}, {3, 2}, {1, 2}, {1, 0}}, false},
		{[][2]int{{math.MinInt, math.MaxInt}, {math.MaxInt, math.MinInt}}, false},
		{[][2]int{{0, 1}, {0, math.MaxInt}, {1, 0}}, false},
		{make([][2]int, 100000), false},
		{slices.Repeat([][2]int{{0, 1}}, 100000), false},
	} {
		if got, e := orders.IsClash(ring.n, ring.edges, c.l); e != api.OK || got != c.want {
			t.Error(i, got, e)
		}
	}
	// The same list is none of a graph with an edge more.
	more := slices.Insert(slices.Clone(ring.edges), 1, [2]int{0, 2})
	if got, e := orders.IsClash(5, more, [][2]int{{0, 1}, {0, 4}, {3, 4}, {3, 2}, {1, 2}, {1, 0}}); got || e != api.OK {
		t.Error(got, e)
	}
}
