package bern_test

import (
	"math/big"
	"slices"
	"testing"

	"girouette/api"
	"girouette/bern"
)

// TestIsPlain: P8.4.
func TestIsPlain(t *testing.T) {
	yes, no := 0, 0
	for _, p := range somePolynomials(1) {
		want := isPlain(p)
		if got, e := bern.IsPlain(p); got != want || e != api.OK {
			t.Error(p, got, e)
		}
		if want {
			yes++
		} else {
			no++
		}
	}
	if yes < 500 || no < 100 {
		t.Error(yes, no)
	}
}

// TestPlainLines: P8.4, a root at each k / 64, and next to it.
func TestPlainLines(t *testing.T) {
	for k := -2; k <= 66; k++ {
		for _, under := range []int{61, 63, 64, 65, 67} {
			p := []int{-k, under}
			want := k < 0 || k > under || k*64%under != 0
			if got, e := bern.IsPlain(p); got != want || e != api.OK {
				t.Error(p, got, e)
			}
			roots := 0
			if want && k > 0 && k < under {
				roots = 1
			}
			wantError := api.OK
			if !want {
				wantError = api.ErrNone
			}
			if got, e := bern.Count(p); got != roots || e != wantError {
				t.Error(p, got, e)
			}
		}
	}
}

// trimmed is the polynomial without zeros at its end.
func trimmed(p []*big.Rat) []*big.Rat {
	for len(p) > 0 && p[len(p)-1].Sign() == 0 {
		p = p[:len(p)-1]
	}
	return p
}

// less is minus the remainder of p by q.
func less(p, q []*big.Rat) []*big.Rat {
	rest := slices.Clone(p)
	for len(rest) >= len(q) {
		times := new(big.Rat).Quo(rest[len(rest)-1], q[len(q)-1])
		shift := len(rest) - len(q)
		for i, number := range q {
			rest[i+shift] = new(big.Rat).Sub(rest[i+shift], new(big.Rat).Mul(times, number))
		}
		rest = trimmed(rest)
	}
	for i, number := range rest {
		rest[i] = new(big.Rat).Neg(number)
	}
	return rest
}

// sturm is how many different roots a polynomial that is not 0 has between 0 and 1, where it has none at these: the changes of signs at 0 and at 1 along Sturm's chain.
func sturm(p []int) int {
	var now, next []*big.Rat
	for k, number := range p {
		now = append(now, big.NewRat(int64(number), 1))
		if k > 0 {
			next = append(next, big.NewRat(int64(k*number), 1))
		}
	}
	now, next = trimmed(now), trimmed(next)
	var atZero, atOne []int64
	for len(now) > 0 {
		whole := new(big.Rat)
		for _, number := range now {
			whole.Add(whole, number)
		}
		atZero, atOne = append(atZero, int64(now[0].Sign())), append(atOne, int64(whole.Sign()))
		if len(next) == 0 {
			break
		}
		now, next = next, less(now, next)
	}
	return changesOf(atZero) - changesOf(atOne)
}

// areRoots is whether pieces are those of a reading that have one change: each of them has one, they come from left to right without meeting, and what lies between them is covered by pieces without changes.
func areRoots(p []int, pieces [][2]int) bool {
	rest := pieces
	var isRead func(piece [2]int) bool
	isRead = func(piece [2]int) bool {
		if len(rest) > 0 && rest[0] == piece {
			rest = rest[1:]
			return changesOf(overs(p, piece)) == 1
		}
		first := len(rest) > 0 && rest[0][0] > piece[0] && rest[0][1]>>(rest[0][0]-piece[0]) == piece[1]
		if !first && changesOf(overs(p, piece)) == 0 {
			return true
		}
		depth, number := piece[0]+1, 2*piece[1]
		return depth <= 6 && isRead([2]int{depth, number}) && isRead([2]int{depth, number + 1})
	}
	return isRead([2]int{0, 0}) && len(rest) == 0
}

// checkRoots compares Roots and Count with the definitions; it is the error.
func checkRoots(t *testing.T, p []int) api.Errno {
	t.Helper()
	want := api.OK
	switch {
	case !isPlain(p):
		want = api.ErrNone
	case !isCovered(p, [2]int{0, 0}, isReadOn):
		want = api.ErrLarge
	}
	pieces, e := bern.Roots(p)
	count, f := bern.Count(p)
	if e != want || f != want {
		t.Error(p, e, f, want)
	}
	if want != api.OK {
		if len(pieces) > 0 || count != 0 {
			t.Error(p, pieces, count)
		}
	} else if !areRoots(p, pieces) || count != len(pieces) || count != sturm(p) {
		t.Error(p, pieces, count, sturm(p))
	}
	return want
}

// TestRoots: P8.4.
func TestRoots(t *testing.T) {
	errors := map[api.Errno]int{}
	for _, p := range somePolynomials(1) {
		errors[checkRoots(t, p)]++
	}
	if errors[api.OK] < 500 || errors[api.ErrNone] < 100 || errors[api.ErrLarge] < 12 {
		t.Error(errors)
	}
}

// TestRootsSmall: P8.4, all polynomials with up to four small coefficients.
func TestRootsSmall(t *testing.T) {
	for size, most := range []int{0, 100, 20, 8, 3} {
		if size > 0 {
			eachList(size, most, func(p []int) { checkRoots(t, p) })
		}
	}
}

// TestKnownRoots: P8.4, readings that need pieces of each depth, with one, two and three roots.
func TestKnownRoots(t *testing.T) {
	for _, c := range []struct {
		p      []int
		count  int
		depth  int
		errors api.Errno
	}{
		{[]int{7, 1}, 0, 0, api.OK},
		{[]int{-1, 3}, 1, 0, api.OK},
		{[]int{-1, 100}, 1, 0, api.OK},
		{[]int{1, -5, 5}, 2, 1, api.OK},
		{[]int{1, -4, 7, -9}, 1, 1, api.OK},
		{[]int{-1, 7, -18, 20}, 1, 2, api.OK},
		{[]int{1, -7, 11}, 2, 2, api.OK},
		{[]int{2, -25, 82, -77}, 3, 2, api.OK},
		{[]int{4, -30, 79, -74}, 1, 3, api.OK},
		{[]int{2, -11, 15}, 2, 3, api.OK},
		{[]int{2, -11, 12, 14, -19}, 3, 3, api.OK},
		{[]int{-2, 22, -58}, 2, 4, api.OK},
		{[]int{-1, 7, -12, -1, -2, 12}, 3, 4, api.OK},
		{[]int{10, -49, 60}, 2, 5, api.OK},
		{[]int{-1, 15, -10, -75, 91}, 3, 5, api.OK},
		{[]int{2, -23, 66}, 2, 6, api.OK},
		{[]int{-4, 40, -100, 28, 90}, 3, 6, api.OK},
		{[]int{0}, 0, 0, api.ErrNone},
		{[]int{0, 0, 0}, 0, 0, api.ErrNone},
		{[]int{-1, 2}, 0, 0, api.ErrNone},
		{[]int{0, 1}, 0, 0, api.ErrNone},
		{[]int{1, -1}, 0, 0, api.ErrNone},
		{[]int{-1, 64}, 0, 0, api.ErrNone},
		{[]int{1, -6, 9}, 0, 0, api.ErrLarge},
		{[]int{4, -12, 9}, 0, 0, api.ErrLarge},
	} {
		pieces, e := bern.Roots(c.p)
		count, f := bern.Count(c.p)
		if e != c.errors || f != c.errors || count != c.count || len(pieces) != c.count {
			t.Error(c.p, pieces, count, e, f)
		}
		deepest := 0
		for _, piece := range pieces {
			deepest = max(deepest, piece[0])
		}
		if c.count > 0 && deepest < c.depth || e == api.OK && !areRoots(c.p, pieces) {
			t.Error(c.p, pieces)
		}
	}
}

// TestNoReading: P8.4, polynomials with a root that is two in one, with two roots that lie too close together, and with none where they come too close to 0: no reading has pieces that are small enough.
func TestNoReading(t *testing.T) {
	for _, c := range []struct {
		p     []int
		roots int
	}{
		{[]int{1, -6, 9}, 1},
		{[]int{4, -12, 9}, 1},
		{[]int{-1, 0, 4, 0, -4}, 1},
		{[]int{31, -40, -57, -1, 59, 79}, 2},
		{[]int{-18, -35, 53, 97, -98}, 2},
		{[]int{1, -6, 5, 10, 7, 15}, 2},
		{[]int{12, -72, 4, 89, 75, -45, -73}, 1},
		{[]int{1, -6, -4, 19, 11, -14, -14}, 3},
		{[]int{43, -11, -62, -9, -9, 52, -2}, 0},
		{[]int{-2, 3, -3, 1, 19, -12, -13}, 0},
		{[]int{49, -88, -49, 83, -24, 90}, 0},
	} {
		pieces, e := bern.Roots(c.p)
		count, f := bern.Count(c.p)
		if len(pieces) > 0 || e != api.ErrLarge || count != 0 || f != api.ErrLarge || sturm(c.p) != c.roots {
			t.Error(c.p, pieces, e, count, f, sturm(c.p))
		}
	}
}
