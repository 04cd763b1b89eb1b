package steady_test

import (
	"math"
	"math/big"
	"slices"
	"testing"

	"girouette/api"
	"girouette/steady"
)

// box is bounds.
type box struct {
	lo, hi []int
}

var (
	// noLists is pairs of lists that are no bounds because of their lengths.
	noLists = []box{
		{nil, nil}, {[]int{}, []int{}}, {[]int{1}, nil}, {nil, []int{1}}, {[]int{1}, []int{1, 1}}, {[]int{1, 1}, []int{1}}, {[]int{1, 1, 1, 1, 1, 1, 1}, []int{1, 1, 1, 1, 1, 1, 1}}, {[]int{1, 1, 1, 1, 1, 1}, []int{1, 1, 1, 1, 1, 1, 1}}, {[]int{1, 1, 1, 1, 1, 1, 1}, []int{1, 1, 1, 1, 1, 1}},
		{[]int{31}, []int{31, 0}}, {[]int{2, 0}, []int{1}}, {make([]int, 7), make([]int, 7)}, {make([]int, 100000), make([]int, 100000)}, {make([]int, 100000), nil},
	}
	// noBounds is pairs of lists of right lengths that are no bounds.
	noBounds = []box{
		{[]int{0}, []int{1}}, {[]int{0}, []int{0}}, {[]int{-1}, []int{1}}, {[]int{-2}, []int{-1}}, {[]int{2}, []int{1}}, {[]int{2, 1}, []int{1, 1}}, {[]int{1, 0}, []int{1, 1}}, {[]int{1, -1}, []int{2, 1}}, {[]int{1, 1}, []int{0, 1}}, {[]int{1, 2}, []int{1, 1}},
		{[]int{31}, []int{31}}, {[]int{1}, []int{31}}, {[]int{-31, 1}, []int{1, 1}}, {[]int{1, 1}, []int{31, 1}}, {[]int{1, 1}, []int{1, 31}}, {[]int{math.MinInt, 1}, []int{math.MaxInt, 1}}, {[]int{1, 1, 1, 1, 1, 0}, []int{1, 1, 1, 1, 1, 1}}, {[]int{1, 1, 2, 1, 1, 1}, []int{1, 1, 1, 1, 1, 1}}, {[]int{1, 1, 1, 1, 1, 1}, []int{1, 1, 1, 1, 1, math.MaxInt}},
	}
)

// boxAround is bounds around a polynomial with a last number greater than 0, as wide as follows from a seed.
func boxAround(a []int, width int, seed uint64) box {
	next := chance(seed)
	b := box{slices.Clone(a), slices.Clone(a)}
	for i := range a {
		b.lo[i] = max(-30, a[i]-next(width+1))
		b.hi[i] = min(30, a[i]+next(width+1))
	}
	b.lo[len(a)-1] = max(1, b.lo[len(a)-1])
	return b
}

// someBoxes is bounds around polynomials, most of them around steady ones; with a step greater than 1 only a part.
func someBoxes(step int) []box {
	list := []box{
		{[]int{1, 1, 1}, []int{2, 2, 2}}, {[]int{0, 1, 1}, []int{1, 1, 1}}, {[]int{1}, []int{30}}, {[]int{5}, []int{5}}, {[]int{0, 1}, []int{0, 1}}, {[]int{-30, 1}, []int{30, 30}}, {[]int{1, 1}, []int{30, 30}}, {[]int{1, 2, 3}, []int{4, 5, 6}},
		{[]int{1, 4, 6, 1}, []int{2, 5, 7, 2}}, {[]int{-30, -30, -30, -30, -30, 1}, []int{30, 30, 30, 30, 30, 30}}, {[]int{30, 30, 30, 30, 30, 30}, []int{30, 30, 30, 30, 30, 30}}, {[]int{1, 5, 10, 10, 5, 1}, []int{1, 5, 10, 10, 5, 1}}, {[]int{1, 6, 13, 13, 6, 1}, []int{1, 7, 14, 14, 6, 1}},
	}
	for i, a := range somePolynomials(step) {
		if a[len(a)-1] < 0 {
			continue
		}
		list = append(list, boxAround(a, i%4, uint64(i)))
		if isSteady(a) {
			list = append(list, boxAround(a, 1, uint64(i)), boxAround(a, 2, uint64(i)), boxAround(a, 0, 0))
			double := slices.Clone(a)
			for k, number := range a {
				double[k] = min(30, 3*number)
			}
			list = append(list, boxAround(double, 1, uint64(i)), boxAround(double, 3, uint64(i)))
		}
	}
	return list
}

// TestCheckBounds: P9.5.
func TestCheckBounds(t *testing.T) {
	for _, b := range someBoxes(4) {
		if e := steady.CheckBounds(b.lo, b.hi); e != api.OK {
			t.Error(b, e)
		}
	}
	for _, b := range noLists {
		if e := steady.CheckBounds(b.lo, b.hi); e != api.ErrArg {
			t.Error(len(b.lo), len(b.hi), e)
		}
	}
	for _, b := range noBounds {
		if e := steady.CheckBounds(b.lo, b.hi); e != api.ErrSteady {
			t.Error(b, e)
		}
	}
}

// TestCheckBoundsNumbers: P9.5 and R9, two numbers in each place of lists of any lengths.
func TestCheckBoundsNumbers(t *testing.T) {
	numbers := append([]int{-30, -29, -1, 0, 1, 2, 29, 30}, far...)
	for size := 1; size < 9; size++ {
		for place := range size {
			for _, low := range numbers {
				for _, high := range numbers {
					lo, hi := slices.Repeat([]int{1}, size), slices.Repeat([]int{2}, size)
					lo[place], hi[place] = low, high
					want := api.OK
					switch {
					case size > 6:
						want = api.ErrArg
					case low < -30, low > high, high > 30, place == size-1 && low <= 0:
						want = api.ErrSteady
					}
					if e := steady.CheckBounds(lo, hi); e != want {
						t.Error(lo, hi, e)
					}
				}
			}
		}
	}
}

// TestCheckBoundsLengths: P9.5, all lengths, of lists that are right and of lists that are not.
func TestCheckBoundsLengths(t *testing.T) {
	for one := range 9 {
		for other := range 9 {
			for _, number := range []int{1, 0, 31} {
				want := api.OK
				switch {
				case one != other || one < 1 || one > 6:
					want = api.ErrArg
				case number != 1:
					want = api.ErrSteady
				}
				if e := steady.CheckBounds(slices.Repeat([]int{number}, one), slices.Repeat([]int{number}, other)); e != want {
					t.Error(one, other, number, e)
				}
			}
		}
	}
}

// TestCorners: P9.5.
func TestCorners(t *testing.T) {
	// isHigh is whether a corner has the upper bound, by the rest of the number of the place by 4.
	isHigh := [4][4]bool{{false, false, true, true}, {true, true, false, false}, {false, true, true, false}, {true, false, false, true}}
	for _, b := range someBoxes(2) {
		got, e := steady.Corners(b.lo, b.hi)
		if e != api.OK {
			t.Error(b, e)
		}
		for i, corner := range got {
			want := slices.Clone(b.lo)
			for k := range want {
				if isHigh[i][k%4] {
					want[k] = b.hi[k]
				}
			}
			if !slices.Equal(corner, want) {
				t.Error(b, i, corner)
			}
		}
	}
}

// TestKnownCorners: P9.5, bounds of each length.
func TestKnownCorners(t *testing.T) {
	lo, hi := []int{1, 2, 3, 4, 5, 6}, []int{11, 12, 13, 14, 15, 16}
	want := [4][]int{{1, 2, 13, 14, 5, 6}, {11, 12, 3, 4, 15, 16}, {1, 12, 13, 4, 5, 16}, {11, 2, 3, 14, 15, 6}}
	for size := 1; size <= 6; size++ {
		got, e := steady.Corners(lo[:size], hi[:size])
		for i, corner := range got {
			if !slices.Equal(corner, want[i][:size]) || e != api.OK {
				t.Error(size, i, corner, e)
			}
		}
	}
}

// isWithin is whether a polynomial is within bounds.
func isWithin(a []int, b box) bool {
	for i := range a {
		if a[i] < b.lo[i] || a[i] > b.hi[i] {
			return false
		}
	}
	return len(a) == len(b.lo)
}

// checkBox compares AllSteady and Fault with each other; it returns whether all are steady.
func checkBox(t *testing.T, b box) bool {
	t.Helper()
	all, e := steady.AllSteady(b.lo, b.hi)
	fault, ok, f := steady.Fault(b.lo, b.hi)
	if e != api.OK || f != api.OK || all == ok {
		t.Error(b, all, e, fault, ok, f)
	}
	if ok && (!isWithin(fault, b) || isSteady(fault)) || !ok && len(fault) > 0 {
		t.Error(b, fault, ok)
	}
	return all
}

// TestSmallBoxes: P9.5, the definition for all polynomials with integers within the bounds.
func TestSmallBoxes(t *testing.T) {
	all, some := 0, 0
	for _, b := range someBoxes(5) {
		count := 1
		for i := range b.lo {
			count *= b.hi[i] - b.lo[i] + 1
		}
		if count > 300 {
			continue
		}
		want := true
		eachList(b.lo, b.hi, func(a []int) { want = want && isSteady(a) })
		if got := checkBox(t, b); got != want {
			t.Error(b, got, want)
		}
		if want {
			all++
		} else {
			some++
		}
	}
	if all < 200 || some < 200 {
		t.Error(all, some)
	}
}

// TestRealWithinBoxes: P9.5, polynomials whose numbers are not integers.
func TestRealWithinBoxes(t *testing.T) {
	all := 0
	for k, b := range someBoxes(3) {
		if !checkBox(t, b) {
			continue
		}
		all++
		next := chance(uint64(k))
		for range 6 {
			var a []*big.Rat
			for i := range b.lo {
				share := big.NewRat(int64(next(18))-1, 16)
				if share.Sign() < 0 {
					share = whole(0)
				}
				a = append(a, plus(whole(b.lo[i]), times(share, whole(b.hi[i]-b.lo[i]))))
			}
			if !isLeft(a) {
				t.Error(b, a)
			}
		}
	}
	if all < 300 {
		t.Error(all)
	}
}

// TestKnownBoxes: P9.5.
func TestKnownBoxes(t *testing.T) {
	for _, c := range []struct {
		lo, hi []int
		want   bool
	}{
		{[]int{1}, []int{30}, true},
		{[]int{30}, []int{30}, true},
		{[]int{1, 1}, []int{30, 30}, true},
		{[]int{0, 1}, []int{1, 1}, false},
		{[]int{-1, 1}, []int{1, 1}, false},
		{[]int{1, 1, 1}, []int{30, 30, 30}, true},
		{[]int{1, 0, 1}, []int{30, 30, 30}, false},
		{[]int{0, 1, 1}, []int{1, 1, 1}, false},
		{[]int{1, 2, 2, 1}, []int{3, 2, 2, 1}, true},
		{[]int{1, 2, 2, 1}, []int{4, 2, 2, 1}, false},
		{[]int{1, 2, 2, 1}, []int{3, 3, 3, 1}, true},
		{[]int{1, 2, 2, 1}, []int{1, 2, 2, 3}, true},
		{[]int{1, 2, 2, 1}, []int{1, 2, 2, 4}, false},
		{[]int{1, 4, 6, 4, 1}, []int{1, 4, 6, 4, 1}, true},
		{[]int{4, 4, 5, 4, 1}, []int{4, 4, 5, 4, 1}, false},
		{[]int{1, 5, 10, 10, 5, 1}, []int{1, 5, 10, 10, 5, 1}, true},
		{[]int{-30, -30, -30, -30, -30, 1}, []int{30, 30, 30, 30, 30, 30}, false},
	} {
		if got := checkBox(t, box{c.lo, c.hi}); got != c.want {
			t.Error(c.lo, c.hi, got)
		}
	}
}

// TestEachCornerCounts: P9.5 and P9.8, for each corner but the first one there are bounds of which this one alone is not steady. (Up to degree 5 the first one never is.)
func TestEachCornerCounts(t *testing.T) {
	alone := [4]int{}
	for _, b := range someBoxes(2) {
		corners, e := steady.Corners(b.lo, b.hi)
		var faulty []int
		for i, corner := range corners {
			if !isSteady(corner) {
				faulty = append(faulty, i)
			}
		}
		if all := checkBox(t, b); all != (len(faulty) == 0) || e != api.OK {
			t.Error(b, all, faulty, e)
		}
		if len(faulty) == 1 {
			alone[faulty[0]]++
		}
	}
	if slices.Min(alone[1:]) < 3 {
		t.Error(alone)
	}
}
