package cycles_test

import (
	"math"
	"slices"
	"testing"

	"girouette/api"
	"girouette/cycles"
)

// inOrder is the numbers up to most in Sharkovsky's order, as the chapter writes them down.
func inOrder(most int) []int {
	var l []int
	for double := 1; double <= most; double *= 2 {
		for odd := 3; double*odd <= most; odd += 2 {
			l = append(l, double*odd)
		}
	}
	var doubles []int
	for double := 1; double <= most; double *= 2 {
		doubles = append(doubles, double)
	}
	slices.Reverse(doubles)
	return append(l, doubles...)
}

// TestAfter: P5.4, all pairs of numbers up to 260.
func TestAfter(t *testing.T) {
	list := inOrder(260)
	if len(list) != 260 {
		t.Fatal(list)
	}
	for i, n := range list {
		for k, m := range list {
			if got, e := cycles.After(n, m); got != (k > i) || e != api.OK {
				t.Error(n, m, got, e)
			}
		}
	}
}

// TestAfterGreat: P5.4, great numbers, rising in the order.
func TestAfterGreat(t *testing.T) {
	rising := []int{
		3, 5, 7, 99, 999_999_997, 999_999_999, 6, 10, 999_999_998, 12, 1 << 9 * 3, 1_000_000_000, 1 << 10 * 3,
		1 << 27 * 3, 1 << 27 * 5, 1 << 27 * 7, 1 << 28 * 3, 1 << 29, 1 << 28, 1 << 27, 1024, 8, 4, 2, 1,
	}
	for i, n := range rising {
		for k, m := range rising {
			if got, e := cycles.After(n, m); got != (k > i) || e != api.OK {
				t.Error(n, m, got, e)
			}
		}
	}
	for _, number := range []int{0, -1, -3, math.MinInt, 1_000_000_001, 1 << 30, 1 << 32, math.MaxInt} {
		for _, two := range [][2]int{{number, 1}, {1, number}, {3, number}, {number, 3}, {number, number}} {
			if got, e := cycles.After(two[0], two[1]); got || e != api.ErrArg {
				t.Error(two, got, e)
			}
		}
	}
}

// TestStefan: P5.4.
func TestStefan(t *testing.T) {
	for _, n := range []int{3, 5, 7} {
		p, e := cycles.Stefan(n)
		if e != api.OK || len(p) != n || !isCycle(p) {
			t.Error(n, p, e)
			continue
		}
		for _, m := range periodsOf(t, p) {
			if m%2 == 1 && m >= 3 && m <= n-2 {
				t.Error(n, p, m)
			}
		}
	}
	for _, n := range append(far, 0, 1, 2, 4, 6, 8, 9, 11) {
		if p, e := cycles.Stefan(n); len(p) > 0 || e != api.ErrArg {
			t.Error(n, p, e)
		}
	}
}
