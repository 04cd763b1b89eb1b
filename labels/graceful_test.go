package labels_test

import (
	"math"
	"slices"
	"testing"

	"girouette/api"
	"girouette/labels"
)

// TestAllLabels: P2.2 and P2.3, all lists of labels by their definitions.
func TestAllLabels(t *testing.T) {
	eachSmall(5, func(g graph) {
		var first, part []int
		many := 0
		eachLabels(g.n, len(g.edges), func(l []int) {
			if !graceful(g, l) {
				return
			}
			many++
			if first == nil {
				first = slices.Clone(l)
			}
			if _, ok := parting(g, l); ok && part == nil {
				part = slices.Clone(l)
			}
		})
		if got, ok, e := labels.Label(g.n, g.edges); e != api.OK || ok != (many > 0) || !same(got, first) {
			t.Error("Label", g, got, ok, e, first)
		}
		if got, e := labels.Count(g.n, g.edges); e != api.OK || got != many {
			t.Error("Count", g, got, e, many)
		}
		if got, ok, e := labels.Part(g.n, g.edges); e != api.OK || ok != (part != nil) || !same(got, part) {
			t.Error("Part", g, got, ok, e, part)
		}
	})
}

// TestGivenLabels: IsGraceful, Parts and Turned, of all lists from -1 to m + 1, also with labels that are the same.
func TestGivenLabels(t *testing.T) {
	for _, g := range append(graphsOn(3), way, apart, full, ringOf(4), starOf(5)) {
		m := len(g.edges)
		l := slices.Repeat([]int{-1}, g.n)
		for {
			checkGiven(t, g, l)
			i := 0
			for ; i < g.n && l[i] == m+1; i++ {
				l[i] = -1
			}
			if i == g.n {
				break
			}
			l[i]++
		}
	}
	eachSmall(5, func(g graph) {
		if l, ok, _ := labels.Label(g.n, g.edges); ok {
			checkGiven(t, g, l)
		}
		if l, ok, _ := labels.Part(g.n, g.edges); ok {
			checkGiven(t, g, l)
		}
	})
}

func checkGiven(t *testing.T, g graph, l []int) {
	t.Helper()
	good := graceful(g, l)
	if got, e := labels.IsGraceful(g.n, g.edges, l); e != api.OK || got != good {
		t.Error("IsGraceful", g, l, got, e)
	}
	c, part := 0, false
	if good {
		c, part = parting(g, l)
	}
	if got, ok, e := labels.Parts(g.n, g.edges, l); e != api.OK || ok != part || got != c {
		t.Error("Parts", g, l, got, ok, e, c)
	}
	turned, e := labels.Turned(g.n, g.edges, l)
	if !good {
		if e != api.ErrArg || len(turned) > 0 {
			t.Error("Turned", g, l, turned, e)
		}
		return
	}
	var want []int
	for _, label := range l {
		want = append(want, len(g.edges)-label)
	}
	if e != api.OK || !same(turned, want) {
		t.Error("Turned", g, l, turned, e)
	}
}

func TestLabelsOfOtherLengths(t *testing.T) {
	for _, l := range [][]int{
		nil, {0}, {0, 2}, {0, 2, 1, 3}, {0, 2, 1, 0}, {0, 2, -1}, {0, 3, 1}, {0, 2, math.MaxInt},
		{math.MinInt, 2, math.MaxInt}, {math.MinInt, math.MinInt, math.MinInt}, make([]int, 100000),
	} {
		checkGiven(t, way, l)
		if got, e := labels.Copies(way.n, way.edges, l); e != api.ErrArg || len(got) > 0 {
			t.Error(l, got, e)
		}
	}
}

func TestExamples(t *testing.T) {
	for _, c := range []struct {
		graph
		label []int
		many  int
		part  []int
	}{
		{way, []int{0, 2, 1}, 4, []int{0, 2, 1}},
		{ring, nil, 0, nil},
		{full, []int{0, 1, 4, 6}, 48, nil},
		{ringOf(3), []int{0, 1, 3}, 12, nil},
		{wayOf(2), []int{0, 1}, 2, []int{0, 1}},
		{apart, nil, 0, nil},
	} {
		label, ok, e := labels.Label(c.n, c.edges)
		if !same(label, c.label) || ok != (c.many > 0) || e != api.OK {
			t.Error(c, label, ok, e)
		}
		if many, e := labels.Count(c.n, c.edges); many != c.many || e != api.OK {
			t.Error(c, many, e)
		}
		part, ok, e := labels.Part(c.n, c.edges)
		if !same(part, c.part) || ok != (c.part != nil) || e != api.OK {
			t.Error(c, part, ok, e)
		}
	}
}

func TestParts(t *testing.T) {
	square := [][2]int{{0, 1}, {0, 3}, {1, 2}, {2, 3}}
	for _, c := range []struct {
		graph
		labels []int
		want   int
		ok     bool
	}{
		{way, []int{0, 2, 1}, 1, true},
		{way, []int{2, 0, 1}, 0, true},
		{way, []int{0, 1, 2}, 0, false},
		{way, []int{0, 2}, 0, false},
		{wayOf(2), []int{1, 0}, 0, true},
		{starOf(4), []int{0, 1, 2, 3}, 0, true},
		{starOf(4), []int{3, 1, 2, 0}, 2, true},
		// These are graceful, and 1 is below one edge and above another one.
		{graph{4, [][2]int{{0, 1}, {0, 2}, {0, 3}, {1, 2}}}, []int{0, 4, 1, 2}, 0, false},
		// A node without an edge may have any label.
		{graph{5, square}, []int{0, 4, 1, 2, 3}, 1, true},
	} {
		if got, ok, e := labels.Parts(c.n, c.edges, c.labels); got != c.want || ok != c.ok || e != api.OK {
			t.Error(c, got, ok, e)
		}
	}
}

// TestTurned: what P2.7 says of turned labels.
func TestTurned(t *testing.T) {
	eachSmall(4, func(g graph) {
		eachLabels(g.n, min(len(g.edges), 6), func(l []int) {
			if !graceful(g, l) {
				return
			}
			turned, e := labels.Turned(g.n, g.edges, l)
			is, f := labels.IsGraceful(g.n, g.edges, turned)
			if e != api.OK || f != api.OK || !is {
				t.Error(g, l, turned, e, f)
			}
			if again, e := labels.Turned(g.n, g.edges, turned); e != api.OK || !same(again, l) {
				t.Error(g, l, again, e)
			}
			_, one, _ := labels.Parts(g.n, g.edges, l)
			if _, other, _ := labels.Parts(g.n, g.edges, turned); one != other {
				t.Error(g, l, one, other)
			}
		})
	})
}

// TestRosa: what P2.8 says of graphs without labels.
func TestRosa(t *testing.T) {
	even := 0
	eachSmall(6, func(g graph) {
		var many [7]int
		for _, edge := range g.edges {
			many[edge[0]]++
			many[edge[1]]++
		}
		allEven := !slices.ContainsFunc(many[:], func(x int) bool { return x%2 == 1 })
		if m := len(g.edges) % 4; !allEven || m != 1 && m != 2 {
			return
		}
		even++
		if l, ok, e := labels.Label(g.n, g.edges); ok || e != api.OK {
			t.Error(g, l, ok, e)
		}
	})
	if even < 100 {
		t.Error("too few graphs with an even number of edges at each node", even)
	}
	eachSmall(5, func(g graph) {
		if l, ok, _ := labels.Part(g.n, g.edges); ok && !twoSides(g) {
			t.Error(g, l)
		}
	})
}

// twoSides is whether the nodes have two sides and each edge joins both: whether there is no ring of an odd number of nodes.
func twoSides(g graph) bool {
	for side := range 1 << g.n {
		good := true
		for _, edge := range g.edges {
			good = good && side>>edge[0]&1 != side>>edge[1]&1
		}
		if good {
			return true
		}
	}
	return false
}

// TestFullGraphs: what P2.9 says of graphs with all edges.
func TestFullGraphs(t *testing.T) {
	for n := 2; n <= 5; n++ {
		g := fullOf(n)
		if _, ok, e := labels.Label(g.n, g.edges); ok != (n <= 4) || e != api.OK {
			t.Error(n, ok, e)
		}
	}
}
