package cycles_test

import (
	"math"
	"slices"
	"testing"

	"girouette/api"
	"girouette/cycles"
)

// checkCheck compares Check with the definition.
func checkCheck(t *testing.T, p []int) {
	t.Helper()
	want := api.ErrCycle
	if isCycle(p) {
		want = api.OK
	}
	if e := cycles.Check(p); e != want {
		t.Error(p, e, want)
	}
}

// TestCheckAll: P5.1, all lists of up to five of the numbers from -1 to 5, and all permutations of up to nine numbers.
func TestCheckAll(t *testing.T) {
	for length := range 6 {
		eachList(7, length, func(list []int) {
			p := slices.Clone(list)
			for i := range p {
				p[i]--
			}
			checkCheck(t, p)
		})
	}
	for n := range 10 {
		many := 0
		for _, p := range permutations(n) {
			checkCheck(t, p)
			if cycles.Check(p) == api.OK {
				many++
			}
		}
		if want := []int{0, 0, 1, 2, 6, 24, 120, 720, 5040, 0}[n]; many != want {
			t.Error(n, many, want)
		}
	}
	for _, p := range noCycles {
		checkCheck(t, p)
		if cycles.Check(p) != api.ErrCycle {
			t.Error(p)
		}
	}
}

// TestCheckChanged: cycles in which one number is another one, or is missing, or is there twice.
func TestCheckChanged(t *testing.T) {
	for n := 2; n <= 8; n++ {
		for i, p := range cyclesOf(n) {
			if i%97 != 0 {
				continue
			}
			for at := range n {
				for number := -1; number <= 9; number++ {
					q := slices.Clone(p)
					q[at] = number
					checkCheck(t, q)
				}
				for _, number := range []int{math.MinInt, math.MaxInt, 1 << 32} {
					q := slices.Clone(p)
					q[at] = number
					checkCheck(t, q)
				}
				checkCheck(t, slices.Delete(slices.Clone(p), at, at+1))
				checkCheck(t, slices.Insert(slices.Clone(p), at, p[0]))
				checkCheck(t, slices.Insert(slices.Clone(p), at, n))
			}
		}
	}
}

// TestCovers: P5.1.
func TestCovers(t *testing.T) {
	for _, p := range someCycles() {
		n := len(p)
		for i := -1; i <= n; i++ {
			for k := -1; k <= n; k++ {
				got, e := cycles.Covers(p, i, k)
				if min(i, k) < 0 || max(i, k) > n-2 {
					if got || e != api.ErrArg {
						t.Error(p, i, k, got, e)
					}
				} else if got != covers(p, i, k) || e != api.OK {
					t.Error(p, i, k, got, e)
				}
			}
		}
	}
	for _, number := range append(far, 2, 7, 8) {
		for _, two := range [][2]int{{0, number}, {number, 0}, {1, number}, {number, number}} {
			if got, e := cycles.Covers([]int{1, 2, 0}, two[0], two[1]); got || e != api.ErrArg {
				t.Error(two, got, e)
			}
			if got, e := cycles.Covers([]int{1, 2, 1}, two[0], two[1]); got || e != api.ErrCycle {
				t.Error(two, got, e)
			}
		}
	}
}

// TestMirror: P5.1, and P5.7: the mirror has the same periods.
func TestMirror(t *testing.T) {
	for n := 2; n <= 8; n++ {
		for i, p := range cyclesOf(n) {
			got, e := cycles.Mirror(p)
			if e != api.OK || len(got) != n || cycles.Check(got) != api.OK {
				t.Error(p, got, e)
				continue
			}
			for x := range n {
				if got[x] != n-1-p[n-1-x] {
					t.Error(p, got)
				}
			}
			if n == 8 && i%7 != 0 {
				continue
			}
			if one, other := periodsOf(t, p), periodsOf(t, got); !slices.Equal(one, other) {
				t.Error(p, one, other)
			}
			for m := 1; m <= 12; m++ {
				one, _ := cycles.Loops(p, m)
				if other, _ := cycles.Loops(got, m); one != other {
					t.Error(p, m, one, other)
				}
			}
		}
	}
}
