package labels_test

import (
	"math"
	"slices"
	"testing"

	"girouette/api"
	"girouette/labels"
)

// TestCopies: P2.4 by the definition, and that copies cover all pairs (P2.7).
func TestCopies(t *testing.T) {
	check := func(g graph, l []int) {
		size := 2*len(g.edges) + 1
		copies, e := labels.Copies(g.n, g.edges, l)
		if e != api.OK || len(copies) != size {
			t.Error(g, l, copies, e)
			return
		}
		for i, c := range copies {
			if len(c) != len(g.edges) {
				t.Error(g, l, i, c)
				continue
			}
			for k, edge := range g.edges {
				a, b := (l[edge[0]]+i)%size, (l[edge[1]]+i)%size
				if c[k] != [2]int{min(a, b), max(a, b)} {
					t.Error(g, l, i, c)
				}
			}
		}
		if ok, e := labels.Covers(size, copies); e != api.OK || !ok {
			t.Error(g, l, ok, e)
		}
		// One copy less, or the first one twice, does not cover them just once.
		if ok, e := labels.Covers(size, copies[1:]); e != api.OK || ok {
			t.Error(g, l, ok, e)
		}
		if ok, e := labels.Covers(size, append(copies, copies[0])); e != api.OK || ok {
			t.Error(g, l, ok, e)
		}
	}
	eachSmall(5, func(g graph) {
		if l, ok, _ := labels.Label(g.n, g.edges); ok {
			check(g, l)
		}
	})
	for _, g := range []graph{way, full, starOf(5)} {
		eachLabels(g.n, len(g.edges), func(l []int) {
			if graceful(g, l) {
				check(g, l)
			}
		})
	}
	got, e := labels.Copies(2, [][2]int{{0, 1}}, []int{0, 1})
	if e != api.OK || !slices.EqualFunc(got, [][][2]int{{{0, 1}}, {{1, 2}}, {{0, 2}}}, slices.Equal) {
		t.Error(got, e)
	}
	for _, l := range [][]int{nil, {0}, {0, 0}, {0, 2}, {-1, 0}, {0, 1, 1}, {math.MaxInt, math.MinInt}} {
		if got, e := labels.Copies(2, [][2]int{{0, 1}}, l); e != api.ErrArg || len(got) > 0 {
			t.Error(l, got, e)
		}
	}
}

// single is copies of one edge each.
func single(edges ...[2]int) [][][2]int {
	var l [][][2]int
	for _, edge := range edges {
		l = append(l, [][2]int{edge})
	}
	return l
}

func TestCovers(t *testing.T) {
	// bad is a copy with an error, behind edges that come twice.
	bad := func(edges ...[2]int) [][][2]int {
		return [][][2]int{{{0, 1}, {0, 1}}, {}, edges}
	}
	for i, c := range []struct {
		size   int
		copies [][][2]int
		want   bool
		e      api.Errno
	}{
		{2, single([2]int{0, 1}), true, api.OK},
		{2, nil, false, api.OK},
		{2, [][][2]int{nil, {}, {{0, 1}}, nil}, true, api.OK},
		{2, [][][2]int{{{0, 1}, {0, 1}}}, false, api.OK},
		{2, single([2]int{0, 1}, [2]int{0, 1}), false, api.OK},
		{3, [][][2]int{{{1, 2}, {0, 1}, {0, 2}}}, true, api.OK},
		{3, single([2]int{0, 1}, [2]int{1, 2}), false, api.OK},
		{3, single([2]int{0, 1}, [2]int{1, 2}, [2]int{1, 2}), false, api.OK},
		{3, [][][2]int{{{0, 1}, {1, 2}}, {{0, 2}, {0, 1}}}, false, api.OK},
		{7, slices.Collect(slices.Chunk(pairsOf(7), 20)), true, api.OK},
		{21, slices.Collect(slices.Chunk(pairsOf(21), 20)), true, api.OK},
		{21, slices.Collect(slices.Chunk(pairsOf(21), 6)), true, api.OK},
		{21, slices.Collect(slices.Chunk(pairsOf(21)[1:], 20)), false, api.OK},
		{21, single(pairsOf(21)[:40]...), false, api.OK},
		{9, append(single(pairsOf(9)...), nil, nil, nil, nil), true, api.OK},
		{9, append(single(pairsOf(9)...), nil, nil, nil, nil, nil), false, api.ErrArg},
		{1, nil, false, api.ErrArg},
		{22, nil, false, api.ErrArg},
		{math.MinInt, nil, false, api.ErrArg},
		{math.MaxInt, nil, false, api.ErrArg},
		{0, single([2]int{0, 1}), false, api.ErrArg},
		{21, single(pairsOf(21)[:41]...), false, api.ErrArg},
		{2, make([][][2]int, 41), false, api.ErrArg},
		{2, make([][][2]int, 40), false, api.OK},
		{21, bad(pairsOf(21)[:20]...), false, api.OK},
		{21, bad(pairsOf(21)[:21]...), false, api.ErrArg},
		{3, single([2]int{0, 3}), false, api.ErrArg},
		{3, bad([2]int{0, 3}), false, api.ErrArg},
		{3, bad([2]int{1, 0}), false, api.ErrArg},
		{3, bad([2]int{1, 1}), false, api.ErrArg},
		{3, bad([2]int{-1, 1}), false, api.ErrArg},
		{3, bad([2]int{0, 2}, [2]int{math.MinInt, math.MaxInt}), false, api.ErrArg},
	} {
		if got, e := labels.Covers(c.size, c.copies); got != c.want || e != c.e {
			t.Error(i, c, got, e)
		}
	}
}
