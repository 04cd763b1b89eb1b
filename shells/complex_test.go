package shells_test

import (
	"math"
	"testing"

	"girouette/api"
	"girouette/shells"
)

func TestCheck(t *testing.T) {
	edges := []int{3, 5, 6, 9, 10, 12, 17, 18, 20, 24, 33}
	for _, c := range []struct {
		n      int
		pieces []int
		want   api.Errno
	}{
		{3, ring, api.OK},
		{4, two, api.OK},
		{1, []int{1}, api.OK},
		{6, []int{63}, api.OK},
		{6, edges[:10], api.OK},
		{3, []int{4}, api.OK},
		{0, []int{1}, api.ErrArg},
		{7, []int{1}, api.ErrArg},
		{-1, nil, api.ErrArg},
		{math.MinInt, []int{0}, api.ErrArg},
		{math.MaxInt, []int{3, 1}, api.ErrArg},
		{3, nil, api.ErrShell},
		{3, []int{}, api.ErrShell},
		{6, edges, api.ErrShell},
		{3, []int{0}, api.ErrShell},
		{3, []int{0, 3}, api.ErrShell},
		{3, []int{-1}, api.ErrShell},
		{3, []int{math.MinInt}, api.ErrShell},
		{3, []int{math.MaxInt}, api.ErrShell},
		{3, []int{8}, api.ErrShell},
		{6, []int{64}, api.ErrShell},
		{3, []int{3, 9}, api.ErrShell},
		{3, []int{3, 3}, api.ErrShell},
		{3, []int{5, 3}, api.ErrShell},
		{3, []int{1, 3}, api.ErrShell},
		{3, []int{1, 2, 5}, api.ErrShell},
		{3, []int{7, 1}, api.ErrShell},
	} {
		if got := shells.Check(c.n, c.pieces); got != c.want {
			t.Error(c.n, c.pieces, got, c.want)
		}
	}
}

func TestCheckAllLists(t *testing.T) {
	// All lists of up to three numbers on three corners, and one too great.
	known := map[[3]int]bool{}
	for _, pieces := range small()[3] {
		var key [3]int
		copy(key[:], pieces)
		known[key] = true
	}
	for code := range 9 * 9 * 9 {
		l := []int{code % 9, code / 9 % 9, code / 81}
		want := api.ErrShell
		if known[[3]int(l)] && l[2] != 0 {
			want = api.OK
		}
		if got := shells.Check(3, l); got != want {
			t.Error(l, got, want)
		}
	}
}

func TestFacesCountsEuler(t *testing.T) {
	eachSmall(5, func(n int, pieces []int) {
		faces, e := shells.Faces(n, pieces)
		want := facesOf(n, pieces)
		if e != api.OK || !same(faces, want) {
			t.Error("Faces", n, pieces, faces, want, e)
		}
		most, euler := 0, eulerOf(want)
		for _, p := range pieces {
			most = max(most, many(p))
		}
		counts := make([]int, most+1)
		for _, f := range want {
			counts[many(f)]++
		}
		if got, e := shells.Counts(n, pieces); e != api.OK || !same(got, counts) {
			t.Error("Counts", n, pieces, got, counts, e)
		}
		if got, e := shells.Euler(n, pieces); e != api.OK || got != euler {
			t.Error("Euler", n, pieces, got, euler, e)
		}
	})
}

// at is the value of a polynomial whose coefficients are listed from the highest power on.
func at(l []int, x int) int {
	sum := 0
	for _, c := range l {
		sum = sum*x + c
	}
	return sum
}

func TestHs(t *testing.T) {
	eachSmall(5, func(n int, pieces []int) {
		counts, _ := shells.Counts(n, pieces)
		hs, e := shells.Hs(n, pieces)
		if e != api.OK || len(hs) != len(counts) {
			t.Error(n, pieces, hs, counts, e)
		}
		// As many values as decide a polynomial of that degree, and more.
		for x := -5; x <= 5; x++ {
			if at(counts, x-1) != at(hs, x) {
				t.Error(n, pieces, hs, counts, x)
			}
		}
	})
	for _, c := range []struct {
		n            int
		pieces, want []int
	}{
		{3, ring, []int{1, 1, 1}},
		{4, two, []int{1, 2, -1}},
		{3, []int{7}, []int{1, 0, 0, 0}},
		{2, []int{1, 2}, []int{1, 1}},
		{5, strip, []int{1, 2, 3, -1}},
		{3, []int{1, 6}, []int{1, 1, -1}},
	} {
		if got, e := shells.Hs(c.n, c.pieces); e != api.OK || !same(got, c.want) {
			t.Error(c.n, c.pieces, got, c.want, e)
		}
	}
}
