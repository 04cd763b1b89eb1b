package steady_test

import (
	"slices"
	"testing"

	"girouette/api"
	"girouette/steady"
)

// TestCheck: P9.1.
func TestCheck(t *testing.T) {
	for _, a := range somePolynomials(1) {
		if e := steady.Check(a); e != api.OK {
			t.Error(a, e)
		}
	}
	for _, a := range noPolynomials {
		if e := steady.Check(a); e != api.ErrSteady {
			t.Error(len(a), e)
		}
	}
}

// TestCheckNumbers: P9.1 and R9, a number in each place of lists of any length.
func TestCheckNumbers(t *testing.T) {
	for size := range 9 {
		for place := range size {
			for _, number := range append([]int{-30, -29, -1, 0, 1, 29, 30}, far...) {
				a := slices.Repeat([]int{1}, size)
				a[place] = number
				want := api.OK
				if size > 6 || number < -30 || number > 30 || number == 0 && place == size-1 {
					want = api.ErrSteady
				}
				if e := steady.Check(a); e != want {
					t.Error(a, e)
				}
			}
		}
	}
}

// TestTurned: P9.1, and W3: turned twice it is what it was.
func TestTurned(t *testing.T) {
	for _, a := range somePolynomials(1) {
		got, e := steady.Turned(a)
		if a[0] == 0 {
			if len(got) > 0 || e != api.ErrArg {
				t.Error(a, got, e)
			}
			continue
		}
		if e != api.OK || len(got) != len(a) {
			t.Error(a, got, e)
			continue
		}
		for i, number := range got {
			if number != a[len(a)-1-i] {
				t.Error(a, got)
			}
		}
		if again, e := steady.Turned(got); !slices.Equal(again, a) || e != api.OK {
			t.Error(a, got, again, e)
		}
	}
}

// TestTimes: P9.1.
func TestTimes(t *testing.T) {
	some := somePolynomials(40)
	many, long, large := 0, 0, 0
	for _, a := range some {
		for _, b := range some {
			want, wantE := multiplied(a, b), api.OK
			switch {
			case len(want) > 6:
				want, wantE = nil, api.ErrLarge
				long++
			case !isPolynomial(want):
				want, wantE = nil, api.ErrLarge
				large++
			default:
				many++
			}
			if got, e := steady.Times(a, b); !slices.Equal(got, want) || e != wantE {
				t.Error(a, b, got, e)
			}
		}
	}
	if many < 1000 || long < 1000 || large < 1000 {
		t.Error(many, long, large)
	}
}

// TestKnownProducts: P9.1, the last products that are not too large, and the first ones that are.
func TestKnownProducts(t *testing.T) {
	for _, c := range []struct {
		a, b, want []int
		e          api.Errno
	}{
		{[]int{1, 1}, []int{2, 1}, []int{2, 3, 1}, api.OK},
		{[]int{1, 1}, []int{-1, 1}, []int{-1, 0, 1}, api.OK},
		{[]int{0, 1}, []int{0, 0, 0, 0, 1}, []int{0, 0, 0, 0, 0, 1}, api.OK},
		{[]int{0, 1}, []int{0, 0, 0, 0, 0, 1}, nil, api.ErrLarge},
		{[]int{0, 0, 0, 1}, []int{0, 0, 0, 1}, nil, api.ErrLarge},
		{[]int{0, 0, 1}, []int{0, 0, 0, 1}, []int{0, 0, 0, 0, 0, 1}, api.OK},
		{[]int{1, 1, 1, 1, 1, 1}, []int{-1, 1}, nil, api.ErrLarge},
		{[]int{1, 1, 1, 1, 1, 1}, []int{-30}, []int{-30, -30, -30, -30, -30, -30}, api.OK},
		{[]int{1, 1, 1, 1, 1, 1}, []int{1, 1, 1, 1, 1, 1}, nil, api.ErrLarge},
		{[]int{30}, []int{1}, []int{30}, api.OK},
		{[]int{30}, []int{-1}, []int{-30}, api.OK},
		{[]int{30}, []int{2}, nil, api.ErrLarge},
		{[]int{15}, []int{2}, []int{30}, api.OK},
		{[]int{-15}, []int{2}, []int{-30}, api.OK},
		{[]int{8}, []int{-4}, nil, api.ErrLarge},
		{[]int{30, 1}, []int{1, 1}, nil, api.ErrLarge},
		{[]int{29, 1}, []int{1, 1}, []int{29, 30, 1}, api.OK},
		{[]int{-29, 1}, []int{1, -1}, []int{-29, 30, -1}, api.OK},
		{[]int{1, 30}, []int{1, -30}, nil, api.ErrLarge},
		{[]int{5, 6}, []int{5, -5}, []int{25, 5, -30}, api.OK},
	} {
		if got, e := steady.Times(c.a, c.b); !slices.Equal(got, c.want) || e != c.e {
			t.Error(c.a, c.b, got, e)
		}
		if got, e := steady.Times(c.b, c.a); !slices.Equal(got, c.want) || e != c.e {
			t.Error(c.b, c.a, got, e)
		}
	}
}

// TestTimesChecksBoth: P9.1, what is no polynomial, in either place, also where the product would be too large.
func TestTimesChecksBoth(t *testing.T) {
	for _, no := range noPolynomials {
		for _, a := range known {
			if got, e := steady.Times(a, no); len(got) > 0 || e != api.ErrSteady {
				t.Error(a, len(no), got, e)
			}
			if got, e := steady.Times(no, a); len(got) > 0 || e != api.ErrSteady {
				t.Error(len(no), a, got, e)
			}
		}
	}
}
