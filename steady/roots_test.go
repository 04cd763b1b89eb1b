package steady_test

import (
	"math/big"
	"slices"
	"testing"

	"girouette/api"
	"girouette/steady"
)

// TestIsSteady: P9.1.
func TestIsSteady(t *testing.T) {
	steadies, others := 0, 0
	for _, a := range somePolynomials(1) {
		want := isSteady(a)
		if got := steadyCall(t, a); got != want {
			t.Error(a, got, want)
		}
		if want && len(a) > 3 {
			steadies++
		}
		if !want && arePositive(rats(a)) {
			others++
		}
	}
	if steadies < 500 || others < 500 {
		t.Error(steadies, others)
	}
}

// TestIsSteadyOfProducts: P9.1, polynomials whose roots are known.
func TestIsSteadyOfProducts(t *testing.T) {
	for _, b := range someBuilt([]int{1, -1, 2, -3}) {
		if got := steadyCall(t, b.a); got != (b.left == len(b.a)-1) {
			t.Error(b, got)
		}
	}
}

// eachOfLowDegree calls do for all polynomials of degree 0 and 1, and a part of those of degree 2.
func eachOfLowDegree(do func(a []int)) {
	for size := 1; size <= 3; size++ {
		count := 0
		eachList([]int{-30, -30, -30}[:size], []int{30, 30, 30}[:size], func(a []int) {
			count++
			if isPolynomial(a) && (size < 3 || count%7 == 0) {
				do(a)
			}
		})
	}
}

// TestSteadyOfLowDegrees: P9.1, polynomials that are steady just if all numbers have one sign.
func TestSteadyOfLowDegrees(t *testing.T) {
	eachOfLowDegree(func(a []int) {
		want := true
		for _, number := range a {
			want = want && number*a[len(a)-1] > 0
		}
		if got := steadyCall(t, a); got != want {
			t.Error(a, got)
		}
	})
}

// TestKnownSteady: P9.1, polynomials with a pair of roots in between, and those with numbers a little greater and smaller.
func TestKnownSteady(t *testing.T) {
	for _, c := range []struct {
		a    []int
		want bool
	}{
		{[]int{-5}, true}, {[]int{1, 1}, true}, {[]int{-1, -1}, true}, {[]int{0, 1}, false}, {[]int{1, 0, 1}, false}, {[]int{-2, -3, -1}, true}, {[]int{0, 1, 1}, false},
		{[]int{1, 1, 1, 1}, false}, {[]int{1, 1, 2, 1}, true}, {[]int{2, 1, 1, 1}, false}, {[]int{1, 2, 1, 1}, true}, {[]int{6, 2, 3, 1}, false}, {[]int{5, 2, 3, 1}, true}, {[]int{7, 2, 3, 1}, false}, {[]int{29, 1, 30, 1}, true}, {[]int{30, 1, 30, 1}, false},
		{[]int{1, 1, 2, 1, 1}, false}, {[]int{1, 1, 3, 1, 1}, true}, {[]int{1, 2, 3, 2, 1}, true}, {[]int{2, 2, 3, 2, 1}, false}, {[]int{-1, -2, -3, -2, -1}, true},
		{[]int{1, 1, 2, 2, 1, 1}, false}, {[]int{1, 5, 10, 10, 5, 1}, true}, {[]int{2, 5, 8, 7, 4, 1}, true}, {[]int{30, 30, 30, 30, 30, 30}, false}, {[]int{-1, -5, -10, -10, -5, -1}, true}, {[]int{1, -5, 10, -10, 5, -1}, false},
	} {
		if got := steadyCall(t, c.a); got != c.want {
			t.Error(c.a, got)
		}
	}
}

// TestIsInner: P9.1.
func TestIsInner(t *testing.T) {
	inner, others := 0, 0
	for _, a := range somePolynomials(1) {
		want := isInside(rats(a))
		if got := innerCall(t, a); got != want {
			t.Error(a, got, want)
		}
		if len(a) > 2 && want {
			inner++
		} else {
			others++
		}
	}
	if inner < 300 || others < 300 {
		t.Error(inner, others)
	}
}

// TestInnerOfLowDegrees: P9.1, polynomials whose roots are in the disc just if the product of these is and the values at 1 and at -1 have the sign that they have far out.
func TestInnerOfLowDegrees(t *testing.T) {
	eachOfLowDegree(func(a []int) {
		last := a[len(a)-1]
		want := len(a) == 1 || max(a[0], -a[0]) < max(last, -last)
		if len(a) == 3 {
			want = want && (a[0]+a[1]+a[2])*last > 0 && (a[0]-a[1]+a[2])*last > 0
		}
		if got := innerCall(t, a); got != want {
			t.Error(a, got)
		}
	})
}

// TestKnownInner: P9.1, roots in the disc, on its edge and outside of it.
func TestKnownInner(t *testing.T) {
	for _, c := range []struct {
		a    []int
		want bool
	}{
		{[]int{4}, true}, {[]int{-4}, true}, {[]int{1, 3}, true}, {[]int{3, 1}, false}, {[]int{1, 1}, false}, {[]int{-1, 1}, false}, {[]int{0, 1}, true}, {[]int{29, 30}, true}, {[]int{-29, 30}, true}, {[]int{30, 29}, false},
		{[]int{1, 0, 2}, true}, {[]int{1, 0, 1}, false}, {[]int{-1, 0, 1}, false}, {[]int{1, 1, 1}, false}, {[]int{0, 0, 1}, true}, {[]int{0, 1, 1}, false}, {[]int{2, 5, 2}, false}, {[]int{1, 2, 1}, false}, {[]int{1, -5, 6}, true},
		{[]int{0, 0, 0, 0, 0, 1}, true}, {[]int{0, 0, 0, 0, 0, -30}, true}, {[]int{1, 0, 0, 0, 0, 1}, false}, {[]int{1, 0, 0, 0, 0, 2}, true}, {[]int{2, 0, 0, 0, 0, 1}, false}, {[]int{1, 1, 1, 1, 1, 1}, false}, {[]int{1, 1, 1, 1, 1, 2}, true}, {[]int{1, 2, 3, 4, 5, 6}, true}, {[]int{6, 5, 4, 3, 2, 1}, false}, {[]int{25, 26, 27, 28, 29, 30}, true}, {[]int{30, 29, 28, 27, 26, 25}, false},
		{[]int{0, 0, 0, 0, -2, 1}, false}, {[]int{29, 0, 0, 0, 0, 30}, true}, {[]int{-29, 0, 0, 0, 0, -30}, true}, {[]int{-30, 0, 0, 0, 0, 29}, false},
	} {
		if got := innerCall(t, c.a); got != c.want {
			t.Error(c.a, got)
		}
	}
}

// TestDisc: P9.4.
func TestDisc(t *testing.T) {
	many, none, large := 0, 0, 0
	for _, a := range somePolynomials(2) {
		want, wantE := opened(a), api.OK
		isNone := valueAt(rats(a), whole(1)).Sign() == 0 || valueAt(rats(a), whole(-1)).Sign() == 0
		switch {
		case isNone:
			want, wantE = nil, api.ErrNone
			none++
		case !isPolynomial(want):
			want, wantE = nil, api.ErrLarge
			large++
		default:
			many++
			checkOpened(t, a, want)
		}
		got, e := steady.Disc(a)
		if !slices.Equal(got, want) || e != wantE {
			t.Error(a, got, e, want)
		}
	}
	if many < 500 || none < 200 || large < 500 {
		t.Error(many, none, large)
	}
}

// opened is the coefficients of the definition of Disc, by binomial coefficients.
func opened(a []int) []int {
	n := len(a) - 1
	list := make([]int, n+1)
	for m := range list {
		sum := new(big.Rat)
		for k, number := range a {
			for i := range k + 1 {
				// From k factors 1 + x come i of x, from n - k factors 1 - x the others.
				term := times(whole(number), times(choose(k, i), choose(n-k, m-i)))
				if (m-i)%2 == 0 {
					sum = plus(sum, term)
				} else {
					sum = minus(sum, term)
				}
			}
		}
		list[m] = int(sum.Num().Int64())
	}
	return list
}

// checkOpened compares coefficients with the definition of Disc at so many places that no others agree.
func checkOpened(t *testing.T, a, coefficients []int) {
	t.Helper()
	for place := 2; place <= 8; place++ {
		x := whole(place)
		rest := minus(whole(1), x)
		value := valueAt(rats(a), per(plus(whole(1), x), rest))
		for range len(a) - 1 {
			value = times(value, rest)
		}
		if value.Cmp(valueAt(rats(coefficients), x)) != 0 {
			t.Error(a, coefficients, x)
		}
	}
}

// TestKnownDiscs: P9.4, the last coefficients that are not too large, the first ones that are, and values that are 0 where others would be too large.
func TestKnownDiscs(t *testing.T) {
	for _, c := range []struct {
		a, want []int
		e       api.Errno
	}{
		{[]int{1, 3}, []int{4, 2}, api.OK},
		{[]int{4}, []int{4}, api.OK},
		{[]int{-30}, []int{-30}, api.OK},
		{[]int{0, 1}, []int{1, 1}, api.OK},
		{[]int{0, 0, 0, 1}, []int{1, 3, 3, 1}, api.OK},
		{[]int{1, 0, 0, 1}, nil, api.ErrNone},
		{[]int{1, 0, 0, 2}, []int{3, 3, 9, 1}, api.OK},
		{[]int{-1, 1}, nil, api.ErrNone},
		{[]int{1, 1}, nil, api.ErrNone},
		{[]int{30, 30}, nil, api.ErrNone},
		{[]int{30, -30}, nil, api.ErrNone},
		{[]int{30, 1, 29}, nil, api.ErrLarge},
		{[]int{30, 1, 30}, nil, api.ErrLarge},
		{[]int{15, 0, 15}, []int{30, 0, 30}, api.OK},
		{[]int{15, 1, 15}, nil, api.ErrLarge},
		{[]int{-15, 0, -15}, []int{-30, 0, -30}, api.OK},
		{[]int{-15, 0, -16}, nil, api.ErrLarge},
		{[]int{29, 1}, []int{30, -28}, api.OK},
		{[]int{30, 1}, nil, api.ErrLarge},
		{[]int{30, 30, 1}, nil, api.ErrLarge},
		{[]int{0, 0, 0, 0, 0, 3}, []int{3, 15, 30, 30, 15, 3}, api.OK},
		{[]int{0, 0, 0, 0, 0, 4}, nil, api.ErrLarge},
		{[]int{3, 0, 0, 0, 0, 0}, nil, api.ErrSteady},
	} {
		if got, e := steady.Disc(c.a); !slices.Equal(got, c.want) || e != c.e {
			t.Error(c.a, got, e)
		}
	}
}
