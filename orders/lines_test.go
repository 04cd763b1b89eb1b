package orders_test

import (
	"math"
	"slices"
	"testing"

	"girouette/api"
	"girouette/orders"
)

// TestDrawnLines: P3.5, Drawn and Common of all two lines of up to four nodes and some of more; and that Draw and Realize find lines just where there are some.
func TestDrawnLines(t *testing.T) {
	for n := 1; n <= 5; n++ {
		drawn, common := map[string]bool{}, map[string]bool{}
		for _, one := range permutations(n) {
			for _, other := range permutations(n) {
				lines := [2][]int{one, other}
				edges, arrows := drawnBy(n, lines)
				drawn[key(edges)], common[key(arrows)] = true, true
				if n < 5 || one[0] == 3 {
					checkDrawn(t, n, lines)
				}
			}
		}
		for _, g := range graphsOn(n) {
			checkDraw(t, g, drawn[key(g.edges)])
			if n == 5 {
				continue
			}
			for _, arrows := range ordersOf(g) {
				checkRealize(t, g, arrows, common[key(arrows)])
			}
		}
	}
	for i, one := range permutations(7) {
		if i%1009 == 0 {
			checkDrawn(t, 7, [2][]int{one, {3, 1, 6, 0, 5, 2, 4}})
			checkDrawn(t, 7, [2][]int{one, one})
		}
	}
}

func checkDrawn(t *testing.T, n int, lines [2][]int) {
	t.Helper()
	edges, arrows := drawnBy(n, lines)
	if got, e := orders.Drawn(n, lines); e != api.OK || !slices.Equal(got, edges) {
		t.Error("Drawn", n, lines, got, e, edges)
	}
	if got, e := orders.Common(n, lines); e != api.OK || !slices.Equal(got, arrows) {
		t.Error("Common", n, lines, got, e, arrows)
	}
}

func checkDraw(t *testing.T, g graph, want bool) {
	t.Helper()
	lines, ok, e := orders.Draw(g.n, g.edges)
	if e != api.OK || ok != want || ok && !areLines(g.n, lines) || !ok && len(lines[0])+len(lines[1]) > 0 {
		t.Error("Draw", g, lines, ok, e)
		return
	}
	if edges, _ := drawnBy(g.n, lines); ok && !slices.Equal(edges, g.edges) {
		t.Error("Draw", g, lines, edges)
	}
}

func checkRealize(t *testing.T, g graph, arrows [][2]int, want bool) {
	t.Helper()
	lines, ok, e := orders.Realize(g.n, arrows)
	if e != api.OK || ok != want || ok && !areLines(g.n, lines) || !ok && len(lines[0])+len(lines[1]) > 0 {
		t.Error("Realize", g, arrows, lines, ok, e)
		return
	}
	if _, back := drawnBy(g.n, lines); ok && !slices.Equal(back, arrows) {
		t.Error("Realize", g, arrows, lines, back)
	}
}

// TestEven: P3.8 (Pnueli, Lempel, Even; Dushnik, Miller).
func TestEven(t *testing.T) {
	numbers := map[bool]int{}
	check := func(g graph) {
		arrows, ok := oriented(t, g)
		_, other := oriented(t, g.others())
		checkDraw(t, g, ok && other)
		if ok {
			numbers[other]++
			checkRealize(t, g, arrows, other)
			checkRealize(t, g, reversed(arrows), other)
		}
	}
	eachGraph(5, check)
	// With fewer than six nodes no graph has an order without being drawn.
	for i, g := range graphsOn(6) {
		if i%7 == 0 {
			check(g)
		}
	}
	if numbers[true] < 1000 || numbers[false] < 30 {
		t.Error(numbers)
	}
}

func TestFewLines(t *testing.T) {
	lines := [2][]int{{0, 1, 2}, {2, 0, 1}}
	edges, e := orders.Drawn(3, lines)
	arrows, f := orders.Common(3, lines)
	if e != api.OK || f != api.OK || !slices.Equal(edges, [][2]int{{0, 2}, {1, 2}}) || !slices.Equal(arrows, [][2]int{{0, 1}}) {
		t.Error(edges, arrows, e, f)
	}
	// A ring of six has an order, its others have none.
	ring := ringOf(6)
	checkDraw(t, ring, false)
	if arrows, ok := oriented(t, ring); !ok {
		t.Error("no order")
	} else {
		checkRealize(t, ring, arrows, false)
	}
	checkDraw(t, ring.others(), false)
	checkDraw(t, ringOf(5), false)
	checkDraw(t, fullOf(7), true)
	checkDraw(t, graph{7, nil}, true)
	checkDraw(t, graph{1, nil}, true)
	checkRealize(t, graph{1, nil}, nil, true)
}

func TestLinesThatAreNone(t *testing.T) {
	good := []int{0, 1, 2}
	bad := [][]int{
		nil, {}, {0}, {0, 1}, {0, 1, 1}, {0, 0, 0}, {2, 2, 1}, {0, 1, 3}, {1, 2, 3}, {-1, 0, 1}, {0, 1, 2, 3}, {0, 1, 2, 2}, {0, 1, 2, 0},
		{0, 1, math.MaxInt}, {math.MinInt, 1, 2}, make([]int, 100000),
	}
	check := func(n int, lines [2][]int) {
		if got, e := orders.Drawn(n, lines); e != api.ErrArg || len(got) > 0 {
			t.Error("Drawn", n, lines, got, e)
		}
		if got, e := orders.Common(n, lines); e != api.ErrArg || len(got) > 0 {
			t.Error("Common", n, lines, got, e)
		}
	}
	for _, l := range bad {
		check(3, [2][]int{l, good})
		check(3, [2][]int{good, l})
		check(3, [2][]int{l, l})
	}
	for _, n := range []int{math.MinInt, -1, 0, 1, 2, 4, 7, 8, math.MaxInt} {
		check(n, [2][]int{good, good})
	}
	check(0, [2][]int{})
	eight := []int{0, 1, 2, 3, 4, 5, 6, 7}
	check(8, [2][]int{eight, eight})
}
