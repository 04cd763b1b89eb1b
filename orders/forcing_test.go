package orders_test

import (
	"math"
	"slices"
	"testing"

	"girouette/api"
	"girouette/orders"
)

// forces is the definition.
func forces(g graph, x, y [2]int) bool {
	a, b := x[0], x[1]
	switch {
	case x == y:
		return true
	case y[0] == a:
		return y[1] != b && !g.joins(b, y[1])
	case y[1] == b:
		return y[0] != a && !g.joins(a, y[0])
	}
	return false
}

// reach is for each arrow that start reaches the number of steps of forcing that it takes.
func reach(g graph, start [2]int) map[[2]int]int {
	steps := map[[2]int]int{start: 0}
	for list := [][2]int{start}; len(list) > 0; list = list[1:] {
		for _, y := range g.arrows() {
			if _, ok := steps[y]; !ok && forces(g, list[0], y) {
				steps[y] = steps[list[0]] + 1
				list = append(list, y)
			}
		}
	}
	return steps
}

// TestForces: P3.2, with nodes that are in range and some that are not.
func TestForces(t *testing.T) {
	for n := 1; n <= 4; n++ {
		for _, g := range graphsOn(n) {
			arrows := g.arrows()
			for i := range 1296 {
				x, y := [2]int{i%6 - 1, i/6%6 - 1}, [2]int{i/36%6 - 1, i/216%6 - 1}
				want, wantError := false, api.ErrArg
				if slices.Contains(arrows, x) && slices.Contains(arrows, y) {
					want, wantError = forces(g, x, y), api.OK
				}
				if got, e := orders.Forces(g.n, g.edges, x, y); e != wantError || got != want {
					t.Error(g, x, y, got, e)
				}
			}
		}
	}
	for _, g := range large() {
		for _, x := range g.arrows() {
			for _, y := range g.arrows() {
				if got, e := orders.Forces(g.n, g.edges, x, y); e != api.OK || got != forces(g, x, y) {
					t.Error(g, x, y, got, e)
				}
			}
		}
	}
}

func TestForcesOfFarArrows(t *testing.T) {
	g := ringOf(4)
	good := [2]int{0, 1}
	for _, bad := range far {
		for _, x := range [][2]int{{0, bad}, {bad, 0}, {bad, bad}, {bad, math.MinInt}} {
			got, e := orders.Forces(g.n, g.edges, x, good)
			again, f := orders.Forces(g.n, g.edges, good, x)
			if got || again || e != api.ErrArg || f != api.ErrArg {
				t.Error(x, got, again, e, f)
			}
			if l, e := orders.Class(g.n, g.edges, x); e != api.ErrArg || len(l) > 0 {
				t.Error(x, l, e)
			}
		}
	}
}

// TestClass: P3.2.
func TestClass(t *testing.T) {
	eachGraph(5, func(g graph) {
		different := map[string]bool{}
		arrows := g.arrows()
		for a := range g.n {
			for b := range g.n {
				x := [2]int{a, b}
				got, e := orders.Class(g.n, g.edges, x)
				if !slices.Contains(arrows, x) {
					if e != api.ErrArg || len(got) > 0 {
						t.Error(g, x, got, e)
					}
					continue
				}
				var want [][2]int
				for y := range reach(g, x) {
					want = append(want, y)
				}
				different[key(got)] = true
				if e != api.OK || !slices.Equal(got, risen(want)) {
					t.Error(g, x, got, e, want)
				}
			}
		}
		if got, e := orders.Classes(g.n, g.edges); e != api.OK || got != len(different) {
			t.Error(g, got, e, different)
		}
	})
}

func TestFewClasses(t *testing.T) {
	for _, c := range []struct {
		graph
		want int
	}{
		{graph{1, nil}, 0}, {graph{3, nil}, 0}, {wayOf(2), 2}, {wayOf(3), 2}, {ringOf(4), 2}, {ringOf(5), 1}, {ringOf(7), 1},
		{fullOf(3), 6}, {fullOf(7), 42}, {starOf(7), 2}, {graph{4, [][2]int{{0, 1}, {2, 3}}}, 4},
	} {
		if got, e := orders.Classes(c.n, c.edges); e != api.OK || got != c.want {
			t.Error(c, got, e)
		}
	}
	square := ringOf(4)
	want := [][2]int{{0, 1}, {0, 3}, {2, 1}, {2, 3}}
	for _, x := range want {
		if got, e := orders.Class(4, square.edges, x); e != api.OK || !slices.Equal(got, want) {
			t.Error(x, got, e)
		}
		if got, e := orders.Class(4, square.edges, [2]int{x[1], x[0]}); e != api.OK || !slices.Equal(got, reversed(want)) {
			t.Error(x, got, e)
		}
	}
}

// TestGallai: what P3.6 says of classes.
func TestGallai(t *testing.T) {
	eachGraph(5, func(g graph) {
		arrows, ok := oriented(t, g)
		for _, x := range g.arrows() {
			class, _ := orders.Class(g.n, g.edges, x)
			turned, e := orders.Class(g.n, g.edges, [2]int{x[1], x[0]})
			if e != api.OK || !slices.Equal(turned, reversed(class)) {
				t.Error(g, x, class, turned, e)
			}
			if !ok || !slices.Contains(arrows, x) {
				continue
			}
			for _, y := range class {
				if !slices.Contains(arrows, y) {
					t.Error(g, arrows, x, class)
				}
			}
		}
	})
}
