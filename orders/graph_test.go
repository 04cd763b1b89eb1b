package orders_test

import (
	"math"
	"slices"
	"testing"

	"girouette/api"
	"girouette/orders"
)

// TestCheck: P3.1.
func TestCheck(t *testing.T) {
	eachGraph(5, func(g graph) {
		if e := orders.Check(g.n, g.edges); e != api.OK {
			t.Error(g, e)
		}
	})
	for _, c := range []struct {
		n     int
		edges [][2]int
		want  api.Errno
	}{
		{1, nil, api.OK},
		{1, [][2]int{}, api.OK},
		{7, [][2]int{{5, 6}}, api.OK},
		{7, fullOf(7).edges, api.OK},
		{0, nil, api.ErrArg},
		{8, nil, api.ErrArg},
		{-1, [][2]int{{1, 0}}, api.ErrArg},
		{math.MinInt, nil, api.ErrArg},
		{math.MaxInt, [][2]int{{0, 1}}, api.ErrArg},
		{1, [][2]int{{0, 0}}, api.ErrGraph},
		{1, [][2]int{{0, 1}}, api.ErrGraph},
		{2, [][2]int{{1, 0}}, api.ErrGraph},
		{2, [][2]int{{1, 1}}, api.ErrGraph},
		{2, [][2]int{{0, 2}}, api.ErrGraph},
		{2, [][2]int{{-1, 0}}, api.ErrGraph},
		{6, [][2]int{{0, 6}}, api.ErrGraph},
		{7, [][2]int{{0, 7}}, api.ErrGraph},
		{7, [][2]int{{math.MinInt, math.MaxInt}}, api.ErrGraph},
		{3, [][2]int{{0, 1}, {0, 1}}, api.ErrGraph},
		{3, [][2]int{{0, 2}, {0, 1}}, api.ErrGraph},
		{3, [][2]int{{1, 2}, {0, 1}}, api.ErrGraph},
		{3, [][2]int{{0, 1}, {1, 0}}, api.ErrGraph},
		{3, [][2]int{{0, 1}, {2, 1}}, api.ErrGraph},
		{3, [][2]int{{0, 1}, {0, 2}, {1, 2}, {1, 2}}, api.ErrGraph},
		{4, [][2]int{{0, 3}, {1, 2}}, api.OK},
		{7, make([][2]int, 100000), api.ErrGraph},
	} {
		if e := orders.Check(c.n, c.edges); e != c.want {
			t.Error(c, e)
		}
	}
}

// TestOthers: P3.1.
func TestOthers(t *testing.T) {
	eachGraph(5, func(g graph) {
		want := g.others().edges
		if got, e := orders.Others(g.n, g.edges); e != api.OK || !slices.Equal(got, want) {
			t.Error(g, got, e, want)
		}
	})
	for _, c := range []struct {
		graph
		want [][2]int
	}{
		{graph{1, nil}, nil},
		{graph{2, nil}, [][2]int{{0, 1}}},
		{fullOf(7), nil},
		{graph{3, [][2]int{{0, 1}}}, [][2]int{{0, 2}, {1, 2}}},
		{ringOf(5), [][2]int{{0, 2}, {0, 3}, {1, 3}, {1, 4}, {2, 4}}},
	} {
		if got, e := orders.Others(c.n, c.edges); e != api.OK || !slices.Equal(got, c.want) {
			t.Error(c, got, e)
		}
	}
}
