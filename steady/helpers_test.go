package steady_test

import (
	"math"
	"math/big"
	"slices"
	"testing"

	"girouette/api"
	"girouette/steady"
)

var (
	// far is numbers that are no coefficients.
	far = []int{math.MinInt, math.MinInt + 1, -1 << 32, -1000, -32, -31, 31, 32, 1000, 1 << 32, math.MaxInt - 1, math.MaxInt}
	// noPolynomials is lists that are not polynomials.
	noPolynomials = [][]int{
		nil, {}, {0}, {1, 0}, {0, 0}, {0, 0, 0, 0, 0, 0}, {1, 2, 3, 4, 5, 0}, {31}, {-31}, {math.MinInt}, {math.MaxInt}, {1 << 32}, {31, 1}, {-31, 1}, {1, 31}, {1, 2, -31, 3}, {1, math.MinInt, 1}, {math.MaxInt, 1, 1, 1, 1, 1},
		{1, 1, 1, 1, 1, 1, 1}, {0, 0, 0, 0, 0, 0, 1}, {1, 1, 1, 1, 1, 1, 0}, make([]int, 7), make([]int, 100000),
	}
	// known is polynomials with something special: tables that break in each row or end with 0, roots between left and right, roots that are several, the greatest numbers.
	known = [][]int{
		{1}, {-1}, {7}, {-5}, {30}, {-30}, {1, 1}, {0, 1}, {-1, 1}, {1, -1}, {0, -1}, {-1, -1}, {30, 1}, {1, 30}, {30, -30},
		{2, 3, 1}, {-2, -3, -1}, {1, 0, 1}, {0, 0, 1}, {0, 1, 1}, {-1, 0, 1}, {1, -3, 1}, {1, 2, 1}, {4, 0, 9}, {1, 0, 2}, {-3, 0, 1}, {2, -3, 1},
		{1, 2, 3, 1}, {6, 1, 1, 1}, {1, 1, 1, 1}, {1, 3, 3, 1}, {0, 0, 0, 1}, {0, 2, 3, 1}, {0, 1, 0, 1}, {1, 0, 1, 1}, {1, 1, 0, 1}, {2, 1, 2, 1}, {-6, 11, -6, 1}, {6, 11, 6, 1}, {-1, -3, -3, -1}, {1, -1, 1, -1}, {-1, -1, 1, 1},
		{1, 4, 6, 4, 1}, {1, 0, 2, 0, 1}, {1, 1, 2, 1, 1}, {1, 2, 3, 2, 1}, {4, 0, 5, 0, 1}, {0, 0, 0, 0, 1}, {1, 1, 1, 1, 1}, {3, 2, 2, 1, 1}, {2, 3, 3, 1, 1}, {24, 26, 9, 1, 1}, {4, 4, 5, 4, 1}, {2, 4, 3, 2, 1}, {-1, -4, -6, -4, -1}, {1, 0, 0, 0, 1}, {-1, 0, 0, 0, 1},
		{1, 5, 10, 10, 5, 1}, {-1, -5, -10, -10, -5, -1}, {0, 4, 0, 5, 0, 1}, {1, 1, 2, 2, 1, 1}, {2, 1, 4, 2, 2, 1}, {1, 2, 3, 3, 2, 1}, {1, 4, 4, 4, 2, 1}, {2, 5, 8, 7, 4, 1}, {0, 0, 0, 0, 0, 1}, {4, 4, 5, 5, 1, 1}, {10, 11, 7, 4, 2, 1}, {3, 5, 6, 3, 2, 1}, {1, 0, 0, 0, 0, 1}, {6, 11, 12, 12, 6, 1}, {-2, 1, 4, -2, -2, 1}, {12, 4, 15, 5, 3, 1},
		{1, 1, 1, 1, 1, 1}, {30, 30, 30, 30, 30, 30}, {-30, -30, -30, -30, -30, -30}, {30, -30, 30, -30, 30, -30}, {-30, 30, -30, 30, -30, 30}, {30, 30, -30, -30, 30, 30}, {30, -30, -30, 30, 30, -30}, {29, 30, -30, 30, 29, 30}, {30, 29, 30, 28, 27, 1}, {1, 30, 30, 30, 30, 1}, {-30, 30, 29, -29, 30, 30}, {0, 30, 30, 30, 30, 30}, {30, 0, 0, 0, 0, -30},
	}
	// leftFactors, rightFactors and middleFactors are polynomials with all roots to the left, to the right, on neither side.
	leftFactors   = [][]int{{1, 1}, {2, 1}, {1, 2}, {3, 1}, {1, 1, 1}, {2, 1, 1}, {2, 2, 1}, {5, 2, 1}, {1, 1, 3}}
	rightFactors  = [][]int{{-1, 1}, {-2, 1}, {-1, 3}, {1, -1, 1}, {2, -1, 1}, {2, -3, 1}, {5, -1, 1}}
	middleFactors = [][]int{{0, 1}, {1, 0, 1}, {2, 0, 1}, {1, 0, 4}}
)

// chance is a sequence of numbers that follow from a seed.
func chance(seed uint64) func(below int) int {
	return func(below int) int {
		seed = seed*6364136223846793005 + 1442695040888963407
		return int((seed >> 33) % uint64(below))
	}
}

// filled is a polynomial with numbers from least to most that follow from a seed.
func filled(count, least, most int, seed uint64) []int {
	next := chance(seed)
	a := make([]int, count)
	for i := range a {
		a[i] = next(most-least+1) + least
	}
	if a[count-1] == 0 {
		a[count-1] = most
	}
	return a
}

// eachList calls do for all lists within the bounds.
func eachList(lo, hi []int, do func(a []int)) {
	a := slices.Clone(lo)
	for {
		do(slices.Clone(a))
		place := 0
		for place < len(a) && a[place] == hi[place] {
			a[place] = lo[place]
			place++
		}
		if place == len(a) {
			return
		}
		a[place]++
	}
}

// isPolynomial is the definition of a polynomial.
func isPolynomial(a []int) bool {
	for _, number := range a {
		if number < -30 || number > 30 {
			return false
		}
	}
	return len(a) > 0 && len(a) < 7 && a[len(a)-1] != 0
}

// multiplied is the product of polynomials.
func multiplied(a, b []int) []int {
	whole := make([]int, len(a)+len(b)-1)
	for i := range a {
		for k := range b {
			whole[i+k] += a[i] * b[k]
		}
	}
	return whole
}

// isPart is whether a product may still become a polynomial.
func isPart(a []int) bool {
	return len(a) < 7 && !slices.ContainsFunc(a, func(number int) bool { return number < -3000 || number > 3000 })
}

// built is a polynomial whose roots are known: how many there are to the left, on neither side, and to the right.
type built struct {
	a                   []int
	left, middle, right int
}

// someBuilt is all products of some factors that are polynomials; those that begin with a number in that list.
func someBuilt(starts []int) []built {
	var list []built
	var grow func(so built, from int)
	grow = func(so built, from int) {
		if isPolynomial(so.a) {
			list = append(list, so)
		}
		for i, factor := range slices.Concat(leftFactors, middleFactors, rightFactors) {
			next := so
			next.a = multiplied(so.a, factor)
			if i < from || !isPart(next.a) {
				continue
			}
			switch roots := len(factor) - 1; {
			case i < len(leftFactors):
				next.left += roots
			case i < len(leftFactors)+len(middleFactors):
				next.middle += roots
			default:
				next.right += roots
			}
			grow(next, i)
		}
	}
	for _, number := range starts {
		grow(built{a: []int{number}}, 0)
	}
	return list
}

// near is polynomials that differ by 1 in one number, and their opposites.
func near(a []int) [][]int {
	var list [][]int
	for i := range a {
		for _, by := range []int{-1, 1} {
			other := slices.Clone(a)
			other[i] += by
			if isPolynomial(other) {
				list = append(list, other, multiplied(other, []int{-1}))
			}
		}
	}
	return list
}

// somePolynomials is the known ones, what is near them, small ones, products, and many others; with a step greater than 1 only a part of these.
func somePolynomials(step int) [][]int {
	list := slices.Clone(known)
	count := 0
	add := func(a []int) {
		if isPolynomial(a) && count%step == 0 {
			list = append(list, a)
		}
		count++
	}
	for _, a := range known {
		for _, other := range near(a) {
			add(other)
		}
	}
	for size := 1; size <= 4; size++ {
		eachList(slices.Repeat([]int{-2}, size), slices.Repeat([]int{3}, size), add)
	}
	for _, b := range someBuilt([]int{1, -1}) {
		add(b.a)
	}
	for size := 2; size <= 6; size++ {
		for seed := range uint64(200) {
			for _, most := range []int{1, 4, 15, 30} {
				add(filled(size, -most, most, seed*16+uint64(size)))
				add(filled(size, 1, most, seed*16+uint64(size)))
			}
		}
	}
	return list
}

// rats is numbers without bounds.
func rats(a []int) []*big.Rat {
	var list []*big.Rat
	for _, number := range a {
		list = append(list, big.NewRat(int64(number), 1))
	}
	return list
}

// plus, minus, times and per are what they say.
func plus(a, b *big.Rat) *big.Rat  { return new(big.Rat).Add(a, b) }
func minus(a, b *big.Rat) *big.Rat { return new(big.Rat).Sub(a, b) }
func times(a, b *big.Rat) *big.Rat { return new(big.Rat).Mul(a, b) }
func per(a, b *big.Rat) *big.Rat   { return new(big.Rat).Quo(a, b) }

// whole is an integer as a fraction.
func whole(number int) *big.Rat { return big.NewRat(int64(number), 1) }

// choose is the binomial coefficient of n over k.
func choose(n, k int) *big.Rat {
	if k < 0 || k > n {
		return whole(0)
	}
	return new(big.Rat).SetInt(new(big.Int).Binomial(int64(n), int64(k)))
}

// arePositive is whether all numbers are greater than 0.
func arePositive(list []*big.Rat) bool {
	return !slices.ContainsFunc(list, func(x *big.Rat) bool { return x.Sign() <= 0 })
}

// sumsOfPowers is, for each power up to the last one, the sum of the roots to that power (Newton).
func sumsOfPowers(a []*big.Rat, last int) []*big.Rat {
	n := len(a) - 1
	sums := []*big.Rat{whole(n)}
	for k := 1; k <= last; k++ {
		next := new(big.Rat)
		for i := 1; i <= min(k, n); i++ {
			term := sums[k-i]
			if i == k {
				term = whole(k)
			}
			next = minus(next, times(per(a[n-i], a[n]), term))
		}
		sums = append(sums, next)
	}
	return sums
}

// pairSums is the polynomial, highest coefficient first, whose roots are the sums of any two roots.
func pairSums(a []*big.Rat) []*big.Rat {
	n := len(a) - 1
	count := n * (n - 1) / 2
	sums := sumsOfPowers(a, count)
	// powers is the sums of powers of the sums of two roots.
	var powers []*big.Rat
	for k := range count + 1 {
		both := new(big.Rat)
		for i := range k + 1 {
			both = plus(both, times(choose(k, i), times(sums[i], sums[k-i])))
		}
		both = minus(both, times(new(big.Rat).SetInt64(1<<k), sums[k]))
		powers = append(powers, per(both, whole(2)))
	}
	list := []*big.Rat{whole(1)}
	for k := 1; k <= count; k++ {
		next := new(big.Rat)
		for i := 1; i <= k; i++ {
			next = minus(next, times(list[k-i], powers[i]))
		}
		list = append(list, per(next, whole(k)))
	}
	return list
}

// isLeft is whether all roots have a real part less than 0. They have if, by its signs, the polynomial has no real root from 0 on and the one of the sums of two roots has none either: two roots that are not real but each other's mirror have twice their real part as their sum. (And if they have, all factors of both have coefficients of one sign.)
func isLeft(a []*big.Rat) bool {
	upright := slices.Clone(a)
	for i := range upright {
		upright[i] = per(a[i], a[len(a)-1])
	}
	return arePositive(upright) && arePositive(pairSums(upright))
}

// isSteady is the definition of what is steady.
func isSteady(a []int) bool {
	return isLeft(rats(a))
}

// isInside is whether all roots have an absolute value less than 1 (Schur, Cohn).
func isInside(a []*big.Rat) bool {
	n := len(a) - 1
	if n == 0 {
		return true
	}
	if new(big.Rat).Abs(a[0]).Cmp(new(big.Rat).Abs(a[n])) >= 0 {
		return false
	}
	var next []*big.Rat
	for k := range n {
		next = append(next, minus(times(a[n], a[k+1]), times(a[0], a[n-1-k])))
	}
	return isInside(next)
}

// valueAt is the value of a polynomial.
func valueAt(a []*big.Rat, x *big.Rat) *big.Rat {
	value := new(big.Rat)
	for _, number := range slices.Backward(a) {
		value = plus(times(value, x), number)
	}
	return value
}

// cut is a list without zeros at the end.
func cut(a []*big.Rat) []*big.Rat {
	for len(a) > 0 && a[len(a)-1].Sign() == 0 {
		a = a[:len(a)-1]
	}
	return a
}

// opposite is minus what is left when a is divided by b.
func opposite(a, b []*big.Rat) []*big.Rat {
	left := slices.Clone(a)
	for len(left) >= len(b) {
		factor := per(left[len(left)-1], b[len(b)-1])
		for i := range b {
			place := len(left) - len(b) + i
			left[place] = minus(left[place], times(factor, b[i]))
		}
		left = cut(left)
	}
	for i := range left {
		left[i] = new(big.Rat).Neg(left[i])
	}
	return left
}

// turns is how often, counted by half turns, the value of a polynomial goes round 0 when its argument goes up between left and right: the roots to the left less those to the right, if there is none in between (Cauchy, Sturm).
func turns(a []int) int {
	var parts [2][]*big.Rat
	for k, number := range a {
		if k%4 > 1 {
			number = -number
		}
		parts[k%2] = append(parts[k%2], whole(number))
		parts[1-k%2] = append(parts[1-k%2], whole(0))
	}
	n := len(a) - 1
	high, low := cut(parts[n%2]), cut(parts[1-n%2])
	index := 0
	for before := high; len(low) > 0; before, low = low, opposite(before, low) {
		if (len(before)-len(low))%2 != 0 {
			index += before[len(before)-1].Sign() * low[len(low)-1].Sign()
		}
	}
	if n%2 == 0 {
		return -index
	}
	return index
}

// isTrue is what a call says of a polynomial, which must be OK.
func isTrue(t *testing.T, name string, call func(a []int) (bool, api.Errno), a []int) bool {
	t.Helper()
	ok, e := call(a)
	if e != api.OK {
		t.Error(name, a, e)
	}
	return ok
}

// steadyCall is IsSteady of what is a polynomial.
func steadyCall(t *testing.T, a []int) bool {
	t.Helper()
	return isTrue(t, "IsSteady", steady.IsSteady, a)
}

// innerCall is IsInner of what is a polynomial.
func innerCall(t *testing.T, a []int) bool {
	t.Helper()
	return isTrue(t, "IsInner", steady.IsInner, a)
}
