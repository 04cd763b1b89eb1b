package shells_test

import (
	"math"
	"slices"
	"testing"

	"girouette/api"
	"girouette/shells"
)

func pure(pieces []int) bool {
	return !slices.ContainsFunc(pieces, func(p int) bool { return many(p) != many(pieces[0]) })
}

// comesNext is, by its definition, whether the piece may come after those before it.
func comesNext(f int, before []int) bool {
	for _, e := range before {
		if !slices.ContainsFunc(before, func(d int) bool { return many(f&^d) == 1 && !part(f&^d, e) }) {
			return false
		}
	}
	return true
}

func isShelling(pieces, order []int) bool {
	var before []int
	for _, i := range order {
		if !comesNext(pieces[i], before) {
			return false
		}
		before = append(before, pieces[i])
	}
	return pure(pieces) && len(order) == len(pieces)
}

// isShellable looks at all sets of pieces that can come first.
func isShellable(pieces []int) bool {
	can := make([]bool, 1<<len(pieces))
	can[0] = true
	for set := range can {
		var before []int
		for i, p := range pieces {
			if set>>i&1 == 1 {
				before = append(before, p)
			}
		}
		for i, p := range pieces {
			if can[set] && set>>i&1 == 0 && comesNext(p, before) {
				can[set|1<<i] = true
			}
		}
	}
	return pure(pieces) && can[len(can)-1]
}

// eachOrder calls do for all orders of 0 to n - 1.
func eachOrder(n int, do func(order []int)) {
	var order []int
	var more func()
	more = func() {
		if len(order) == n {
			do(slices.Clone(order))
		}
		for i := range n {
			if !slices.Contains(order, i) {
				order = append(order, i)
				more()
				order = order[:len(order)-1]
			}
		}
	}
	more()
}

func TestShell(t *testing.T) {
	found := 0
	eachSmall(5, func(n int, pieces []int) {
		order, ok, e := shells.Shell(n, pieces)
		if e != api.OK || ok != isShellable(pieces) {
			t.Fatal(n, pieces, order, ok, e)
		}
		if !ok && len(order) > 0 {
			t.Error("next to a false", n, pieces, order)
		}
		if !ok {
			return
		}
		found++
		sorted := slices.Sorted(slices.Values(order))
		for i, x := range sorted {
			if i != x {
				t.Fatal(n, pieces, order)
			}
		}
		if !isShelling(pieces, order) {
			t.Error(n, pieces, order)
		}
		if is, e := shells.IsShelling(n, pieces, order); !is || e != api.OK {
			t.Error(n, pieces, order, is, e)
		}
	})
	if found < 1000 {
		t.Error("few shellings", found)
	}
}

func TestShellKnown(t *testing.T) {
	for _, c := range []struct {
		n      int
		pieces []int
		want   bool
	}{
		{3, ring, true},
		{4, two, false},
		{3, []int{1, 6}, false},
		{3, []int{1, 2, 4}, true},
		{1, []int{1}, true},
		{6, []int{63}, true},
		{5, []int{7, 28}, false},
		{5, strip, false},
		{6, plane, false},
	} {
		if _, ok, e := shells.Shell(c.n, c.pieces); ok != c.want || e != api.OK {
			t.Error(c.n, c.pieces, ok, e)
		}
	}
}

func TestAllOrders(t *testing.T) {
	for n := 1; n <= 4; n++ {
		for _, pieces := range small()[n] {
			eachOrder(len(pieces), func(order []int) {
				want := isShelling(pieces, order)
				if got, e := shells.IsShelling(n, pieces, order); got != want || e != api.OK {
					t.Error(n, pieces, order, got, e)
				}
				checkNews(t, n, pieces, order, want)
			})
		}
	}
}

// checkNews: the new parts by their definition, and (P1.6) how many of them have i corners.
func checkNews(t *testing.T, n int, pieces, order []int, is bool) {
	t.Helper()
	news, e := shells.News(n, pieces, order)
	if !is {
		if e != api.ErrArg || len(news) > 0 {
			t.Error("not a shelling", n, pieces, order, news, e)
		}
		return
	}
	if e != api.OK || len(news) != len(order) {
		t.Fatal(n, pieces, order, news, e)
	}
	hs, _ := shells.Hs(n, pieces)
	sizes := make([]int, len(hs))
	var before []int
	for i, k := range order {
		want := 0
		for v := 1; v <= pieces[k]; v *= 2 {
			if part(v, pieces[k]) && isFace(before, pieces[k]&^v) {
				want |= v
			}
		}
		if news[i] != want {
			t.Error(n, pieces, order, news, i, want)
		}
		sizes[many(news[i])]++
		before = append(before, pieces[k])
	}
	if !same(sizes, hs) {
		t.Error("new parts", n, pieces, order, news, hs)
	}
}

func TestNewPartsOfFoundShellings(t *testing.T) {
	eachSmall(5, func(n int, pieces []int) {
		if order, ok, _ := shells.Shell(n, pieces); ok {
			checkNews(t, n, pieces, order, true)
		}
	})
	if news, e := shells.News(3, ring, []int{0, 1, 2}); e != api.OK || !same(news, []int{0, 4, 6}) {
		t.Error(news, e)
	}
	if news, e := shells.News(2, []int{1, 2}, []int{1, 0}); e != api.OK || !same(news, []int{0, 1}) {
		t.Error(news, e)
	}
}

func TestOrdersThatAreNone(t *testing.T) {
	for _, c := range []struct {
		n             int
		pieces, order []int
	}{
		{3, ring, nil},
		{3, ring, []int{0, 1}},
		{3, ring, []int{0, 1, 1}},
		{3, ring, []int{0, 1, 3}},
		{3, ring, []int{0, 1, -1}},
		{3, ring, []int{0, 1, math.MaxInt}},
		{3, ring, []int{math.MinInt, 1, 2}},
		{3, ring, []int{0, 1, 2, 0}},
		{3, ring, []int{0, 1, 2, 3}},
		{3, ring, []int{3, 5, 6}},
		{4, two, []int{0, 1}},
		{3, []int{1, 6}, []int{1, 0}},
		{3, []int{1, 6}, []int{0, 1}},
		{4, []int{7, 12}, []int{0, 1}},
	} {
		if is, e := shells.IsShelling(c.n, c.pieces, c.order); is || e != api.OK {
			t.Error(c, is, e)
		}
		if news, e := shells.News(c.n, c.pieces, c.order); len(news) > 0 || e != api.ErrArg {
			t.Error(c, news, e)
		}
	}
}
