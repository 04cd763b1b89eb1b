package steady_test

import (
	"math"
	"math/big"
	"slices"
	"testing"

	"girouette/api"
	"girouette/steady"
)

// cutEnd is numbers without zeros at the end.
func cutEnd(numbers []int) []int {
	end := len(numbers)
	for end > 0 && numbers[end-1] == 0 {
		end--
	}
	return numbers[:end]
}

// TestHalves: P9.3.
func TestHalves(t *testing.T) {
	for _, a := range somePolynomials(1) {
		var want [2][]int
		for i := 0; i < len(a); i += 2 {
			want[0] = append(want[0], a[i])
		}
		for i := 1; i < len(a); i += 2 {
			want[1] = append(want[1], a[i])
		}
		got, e := steady.Halves(a)
		if e != api.OK || !slices.Equal(got[0], cutEnd(want[0])) || !slices.Equal(got[1], cutEnd(want[1])) {
			t.Error(a, got, e)
		}
	}
}

// TestKnownHalves: P9.3, zeros at the end of either half, and halves of which nothing is left.
func TestKnownHalves(t *testing.T) {
	for _, c := range []struct{ a, even, odd []int }{
		{[]int{7}, []int{7}, nil},
		{[]int{0, 1}, nil, []int{1}},
		{[]int{3, 1}, []int{3}, []int{1}},
		{[]int{1, 0, 3}, []int{1, 3}, nil},
		{[]int{1, 0, 0, 3}, []int{1}, []int{0, 3}},
		{[]int{0, 0, 0, 3}, nil, []int{0, 3}},
		{[]int{0, 0, 3}, []int{0, 3}, nil},
		{[]int{1, 2, 3, 1}, []int{1, 3}, []int{2, 1}},
		{[]int{1, 2, 0, 0, 5}, []int{1, 0, 5}, []int{2}},
		{[]int{1, 0, 0, 0, 0, 5}, []int{1}, []int{0, 0, 5}},
		{[]int{1, 2, 3, 4, 5, 6}, []int{1, 3, 5}, []int{2, 4, 6}},
		{[]int{0, 2, 0, 0, 0, 6}, nil, []int{2, 0, 6}},
	} {
		got, e := steady.Halves(c.a)
		if e != api.OK || !slices.Equal(got[0], c.even) || !slices.Equal(got[1], c.odd) {
			t.Error(c.a, got, e)
		}
	}
}

// isWoven is the definition of Weave.
func isWoven(even, odd []int) bool {
	a := make([]int, 6)
	for i := range a {
		if half := [2][]int{even, odd}[i%2]; i/2 < len(half) {
			a[i] = half[i/2]
		}
	}
	a = cutEnd(a)
	return len(a) > 0 && a[len(a)-1] > 0 && isSteady(a)
}

// TestWeave: P9.3, all small lists, with zeros at their ends too, and the halves of polynomials.
func TestWeave(t *testing.T) {
	steadies := 0
	try := func(even, odd []int) {
		want := isWoven(even, odd)
		if want {
			steadies++
		}
		if got, e := steady.Weave(even, odd); got != want || e != api.OK {
			t.Error(even, odd, got, e, want)
		}
	}
	for left := range 4 {
		for right := range 4 {
			lo, hi := slices.Repeat([]int{-1}, left+right), slices.Repeat([]int{1}, left+right)
			for i := range lo {
				hi[i] += i % 2
				lo[i] += i % 2
			}
			eachList(lo, hi, func(a []int) { try(a[:left:left], a[left:]) })
		}
	}
	for _, a := range somePolynomials(1) {
		halves, e := steady.Halves(a)
		if e != api.OK {
			t.Error(a, e)
		}
		try(halves[0], halves[1])
		try(halves[1], halves[0])
	}
	if steadies < 1000 {
		t.Error(steadies)
	}
}

// TestWeaveMergesHalves: P9.3 and W3: the halves of a polynomial say whether it is steady.
func TestWeaveMergesHalves(t *testing.T) {
	for _, a := range somePolynomials(1) {
		halves, _ := steady.Halves(a)
		got, e := steady.Weave(halves[0], halves[1])
		if want := a[len(a)-1] > 0 && steadyCall(t, a); got != want || e != api.OK {
			t.Error(a, halves, got, e)
		}
	}
}

// TestKnownWoven: P9.3.
func TestKnownWoven(t *testing.T) {
	for _, c := range []struct {
		even, odd []int
		want      bool
		e         api.Errno
	}{
		{nil, nil, false, api.OK},
		{[]int{0, 0, 0}, []int{0, 0, 0}, false, api.OK},
		{[]int{0}, nil, false, api.OK},
		{[]int{5}, nil, true, api.OK},
		{[]int{-5}, nil, false, api.OK},
		{nil, []int{5}, false, api.OK},
		{[]int{1}, []int{1}, true, api.OK},
		{[]int{-1}, []int{-1}, false, api.OK},
		{[]int{1, 0, 0}, []int{1, 0}, true, api.OK},
		{[]int{1, 3}, []int{2, 1}, true, api.OK},
		{[]int{-1, -3}, []int{-2, -1}, false, api.OK},
		{[]int{1, 10, 5}, []int{5, 10, 1}, true, api.OK},
		{[]int{1, 1, 1}, []int{1, 1, 1}, false, api.OK},
		{[]int{30, 30, 30}, []int{30, 30, 30}, false, api.OK},
		{[]int{1, 2, 3, 4}, nil, false, api.ErrArg},
		{nil, []int{1, 2, 3, 4}, false, api.ErrArg},
		{[]int{1, 0, 0, 0}, []int{1}, false, api.ErrArg},
		{[]int{0, 0, 0, 0}, nil, false, api.ErrArg},
		{[]int{1}, []int{1, 0, 0, 0}, false, api.ErrArg},
		{[]int{31}, nil, false, api.ErrArg},
		{[]int{30}, []int{30}, true, api.OK},
		{[]int{-31}, []int{1}, false, api.ErrArg},
		{[]int{1}, []int{31}, false, api.ErrArg},
		{[]int{1}, []int{1, 0, math.MinInt}, false, api.ErrArg},
		{[]int{math.MaxInt, 1}, []int{1}, false, api.ErrArg},
	} {
		if got, e := steady.Weave(c.even, c.odd); got != c.want || e != c.e {
			t.Error(c.even, c.odd, got, e)
		}
	}
}

// TestWeaveNumbers: P9.3 and R9, a number in each place of either list, and lists of any length.
func TestWeaveNumbers(t *testing.T) {
	for size := range 6 {
		for place := range size {
			for _, number := range append([]int{-30, -1, 0, 30}, far...) {
				list := slices.Repeat([]int{1}, size)
				list[place] = number
				want := api.OK
				if size > 3 || number < -30 || number > 30 {
					want = api.ErrArg
				}
				if _, e := steady.Weave(list, nil); e != want {
					t.Error(list, e)
				}
				if _, e := steady.Weave([]int{1, 2, 3}, list); e != want {
					t.Error(list, e)
				}
			}
		}
	}
}

// float is a number with so many digits that different roots of halves are never the same, and same ones never far apart.
func float(number int) *big.Float {
	return new(big.Float).SetPrec(400).SetInt64(int64(number))
}

// rootsOf is the different real roots of a half, falling; false if it has others or one twice.
func rootsOf(half []int) ([]*big.Float, bool) {
	if len(half) < 2 {
		return nil, true
	}
	quo := func(over, under *big.Float) *big.Float { return new(big.Float).SetPrec(400).Quo(over, under) }
	if len(half) == 2 {
		return []*big.Float{quo(float(-half[0]), float(half[1]))}, true
	}
	inner := half[1]*half[1] - 4*half[0]*half[2]
	if inner <= 0 {
		return nil, false
	}
	width := new(big.Float).SetPrec(400).Sqrt(float(inner))
	up := new(big.Float).SetPrec(400).Add(float(-half[1]), width)
	down := new(big.Float).SetPrec(400).Sub(float(-half[1]), width)
	roots := []*big.Float{quo(up, float(2*half[2])), quo(down, float(2*half[2]))}
	slices.SortFunc(roots, func(a, b *big.Float) int { return b.Cmp(a) })
	return roots, true
}

// takeTurns is what is said of the roots of the two halves, falling.
func takeTurns(even, odd []*big.Float) bool {
	if len(even) < len(odd) || len(even) > len(odd)+1 {
		return false
	}
	tiny := new(big.Float).SetMantExp(float(1), -100)
	before := float(0)
	for i := range len(even) + len(odd) {
		next := [2][]*big.Float{even, odd}[i%2][i/2]
		if new(big.Float).Sub(before, next).Cmp(tiny) < 0 {
			return false
		}
		before = next
	}
	return true
}

// TestHermite: P9.7.
func TestHermite(t *testing.T) {
	steadies, others := 0, 0
	try := func(a []int) {
		if len(a) < 2 || !arePositive(rats(a)) {
			return
		}
		halves, e := steady.Halves(a)
		even, ok := rootsOf(halves[0])
		odd, also := rootsOf(halves[1])
		want := ok && also && takeTurns(even, odd)
		if got := steadyCall(t, a); got != want || e != api.OK {
			t.Error(a, halves, got, want, e)
		}
		if want {
			steadies++
		} else {
			others++
		}
	}
	for _, a := range somePolynomials(1) {
		try(a)
	}
	for size := 2; size <= 6; size++ {
		for seed := range uint64(3000) {
			try(filled(size, 1, 30, seed))
			try(filled(size, 1, 6, seed))
		}
		eachList(slices.Repeat([]int{1}, size), slices.Repeat([]int{3}, size), try)
	}
	if steadies < 5000 || others < 5000 {
		t.Error(steadies, others)
	}
}
