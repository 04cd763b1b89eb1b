package shells_test

import (
	"math"
	"slices"
	"testing"

	"girouette/api"
	"girouette/shells"
)

// take is what is left of the faces, if taking these two away is a collapse.
func take(left []int, c [2]int) ([]int, bool) {
	if c[0] == 0 || !slices.Contains(left, c[0]) {
		return nil, false
	}
	above := 0
	var rest []int
	for _, s := range left {
		if s != c[0] && part(c[0], s) {
			above++
		}
		if s != c[0] && s != c[1] {
			rest = append(rest, s)
		}
	}
	ok := above == 1 && slices.Contains(left, c[1]) && part(c[0], c[1]) && many(c[1]) == many(c[0])+1
	return rest, ok
}

// key is a number for a set of faces.
func key(left []int) uint64 {
	var k uint64
	for _, s := range left {
		k |= 1 << s
	}
	return k
}

// collapses is, by trying everything, whether only one corner can be left; known keeps what was found.
func collapses(left []int, known map[uint64]bool) bool {
	k := key(left)
	if ok, was := known[k]; was {
		return ok
	}
	ok := len(left) == 2
	for _, f := range left {
		for _, e := range left {
			if rest, is := take(left, [2]int{f, e}); is && !ok {
				ok = collapses(rest, known)
			}
		}
	}
	known[k] = ok
	return ok
}

func TestCollapse(t *testing.T) {
	var known [6]map[uint64]bool
	for i := range known {
		known[i] = map[uint64]bool{}
	}
	found := 0
	eachSmall(5, func(n int, pieces []int) {
		l, ok, e := shells.Collapse(n, pieces)
		if e != api.OK || !ok && len(l) > 0 {
			t.Fatal(n, pieces, l, ok, e)
		}
		if n < 6 && ok != collapses(facesOf(n, pieces), known[n]) {
			t.Error(n, pieces, l, ok)
		}
		if ok {
			found++
			checkCollapses(t, n, pieces, l)
		}
	})
	if found < 500 {
		t.Error("few collapses", found)
	}
}

// checkCollapses: the collapses one after the other, what Left says of each beginning of them, and (P1.7) Euler and the hollow numbers.
func checkCollapses(t *testing.T, n int, pieces []int, l [][2]int) {
	t.Helper()
	left := facesOf(n, pieces)
	for i := range len(l) + 1 {
		got, ok, e := shells.Left(n, pieces, l[:i])
		if e != api.OK || !ok || !same(got, left) {
			t.Fatal(n, pieces, l[:i], got, left, ok, e)
		}
		if euler := eulerOf(left); euler != 1 {
			t.Error("Euler of what is left", n, pieces, l[:i], euler)
		}
		if i == len(l) {
			break
		}
		if left, ok = take(left, l[i]); !ok {
			t.Fatal("not a collapse", n, pieces, l, i)
		}
	}
	if len(left) != 2 || left[0] != 0 || many(left[1]) != 1 {
		t.Error(n, pieces, l, left)
	}
	hollows, _ := shells.Hollows(n, pieces)
	for _, h := range hollows {
		if h != 0 {
			t.Error(n, pieces, hollows)
		}
	}
}

func TestCollapseKnown(t *testing.T) {
	for _, c := range []struct {
		n      int
		pieces []int
		want   bool
	}{
		{3, []int{7}, true},
		{1, []int{1}, true},
		{6, []int{32}, true},
		{6, []int{63}, true},
		{6, []int{31, 32}, false},
		{6, []int{7, 28, 48}, true},
		{2, []int{1, 2}, false},
		{3, ring, false},
		{4, two, false},
		{5, strip, false},
		{6, plane, false},
		{6, plane[:9], false},
		{6, []int{7, 14, 28, 56, 35, 49}, false},
		{6, []int{15, 51, 60}, false},
		{6, []int{15, 23, 39, 43}, true},
		{6, []int{31, 47, 55, 59, 61, 62}, false},
		{6, []int{31, 47, 55, 59, 61}, true},
	} {
		slices.Sort(c.pieces)
		l, ok, e := shells.Collapse(c.n, c.pieces)
		if ok != c.want || e != api.OK {
			t.Error(c.n, c.pieces, l, ok, e)
		}
		if ok {
			checkCollapses(t, c.n, c.pieces, l)
		}
	}
}

// TestLeftOfPairs looks at all pairs as a first collapse, and as a second one.
func TestLeftOfPairs(t *testing.T) {
	for n := 1; n <= 4; n++ {
		for _, pieces := range small()[n] {
			faces := facesOf(n, pieces)
			for f := -1; f <= 1<<n; f++ {
				for e := -1; e <= 1<<n; e++ {
					checkLeft(t, n, pieces, faces, [2]int{f, e})
				}
			}
		}
	}
}

func checkLeft(t *testing.T, n int, pieces, faces []int, first [2]int) {
	t.Helper()
	want, is := take(faces, first)
	got, ok, e := shells.Left(n, pieces, [][2]int{first})
	if e != api.OK || ok != is || ok && !same(got, want) || !ok && len(got) > 0 {
		t.Error(n, pieces, first, got, ok, e)
	}
	if !is {
		return
	}
	if euler, _ := shells.Euler(n, pieces); euler != eulerOf(want) {
		t.Error("Euler", n, pieces, first, euler, want)
	}
	for f := range 1 << n {
		for e := range 1 << n {
			rest, is := take(want, [2]int{f, e})
			got, ok, _ := shells.Left(n, pieces, [][2]int{first, {f, e}})
			if ok != is || ok && !same(got, rest) || !ok && len(got) > 0 {
				t.Error(n, pieces, first, f, e, got, ok)
			}
		}
	}
}

func TestLeftEdges(t *testing.T) {
	for _, c := range []struct {
		n         int
		pieces    []int
		collapses [][2]int
		want      []int
		ok        bool
	}{
		{3, []int{7}, nil, []int{0, 1, 2, 3, 4, 5, 6, 7}, true},
		{3, ring, [][2]int{}, []int{0, 1, 2, 3, 4, 5, 6}, true},
		{3, []int{7}, [][2]int{{3, 7}}, []int{0, 1, 2, 4, 5, 6}, true},
		{3, []int{7}, [][2]int{{3, 7}, {3, 7}}, nil, false},
		{3, []int{7}, [][2]int{{7, 3}}, nil, false},
		{3, []int{7}, [][2]int{{1, 7}}, nil, false},
		{3, []int{7}, [][2]int{{7, 7}}, nil, false},
		{3, []int{7}, [][2]int{{3, 7}, {0, 0}}, nil, false},
		{3, []int{7}, [][2]int{{3, 7}, {2, 6}, {1, 5}}, []int{0, 4}, true},
		{3, []int{7}, [][2]int{{3, 7}, {2, 6}, {1, 5}, {0, 4}}, nil, false},
		{3, []int{7}, [][2]int{{3, 7}, {2, 6}, {1, 5}, {4, 4}}, nil, false},
		{1, []int{1}, [][2]int{{0, 1}}, nil, false},
		{1, []int{1}, [][2]int{{1, 0}}, nil, false},
		{1, []int{1}, [][2]int{{0, 0}}, nil, false},
		{2, []int{3}, [][2]int{{1, math.MaxInt}}, nil, false},
		{2, []int{3}, [][2]int{{math.MinInt, 3}}, nil, false},
		{2, []int{3}, [][2]int{{math.MaxInt, 3}}, nil, false},
		{2, []int{3}, [][2]int{{64, 3}}, nil, false},
		{2, []int{3}, [][2]int{{1, 3}, {-1, 3}}, nil, false},
		{6, []int{63}, [][2]int{{31, 63}, {63, 64}}, nil, false},
	} {
		got, ok, e := shells.Left(c.n, c.pieces, c.collapses)
		if e != api.OK || ok != c.ok || !same(got, c.want) {
			t.Error(c, got, ok, e)
		}
	}
}
