package bern_test

import (
	"math"
	"math/big"
	"slices"
	"testing"

	"girouette/api"
	"girouette/bern"
)

var (
	// far is numbers that are no depths and no numbers of pieces.
	far = []int{math.MinInt, math.MinInt + 1, -1000, -2, -1, 64, 65, 1000, 1 << 32, math.MaxInt - 1, math.MaxInt}
	// noPolynomials is lists that are not polynomials.
	noPolynomials = [][]int{
		nil, {}, {101}, {-101}, {math.MinInt}, {math.MaxInt}, {1 << 32}, {0, 101}, {-101, 0}, {0, 0, 0, 0, 0, 0, 101}, {1, 2, -101, 3}, {1, math.MinInt, 1},
		make([]int, 8), {0, 0, 0, 0, 0, 0, 0, 1}, make([]int, 100000),
	}
	// far64 is numbers that are no numerators of corners.
	far64 = []int64{math.MinInt64, math.MinInt64 + 1, -1 << 40, -1000001, 1000001, 1 << 40, math.MaxInt64 - 1, math.MaxInt64}
	// noShares is pairs that are no fractions from 0 to 1, whatever their denominators may be.
	noShares = [][2]int64{
		{0, 0}, {1, 0}, {-1, 0}, {0, -1}, {-1, -1}, {-1, -2}, {1, -2}, {-1, 2}, {-1, 1}, {0, 2}, {0, 64}, {2, 2}, {2, 4}, {4, 2}, {6, 9}, {16, 16}, {2, 1}, {3, 2}, {17, 16}, {65, 64},
		{1, 65}, {64, 65}, {1, 128}, {0, 65}, {1, math.MaxInt64}, {math.MaxInt64, math.MaxInt64}, {math.MinInt64, math.MinInt64}, {math.MinInt64, -1}, {math.MinInt64, 1}, {0, math.MinInt64}, {1, math.MinInt64}, {math.MaxInt64, 1}, {math.MaxInt64, 2},
	}
	// known is polynomials with something special: corners that are 0, proofs, readings and low values that need pieces of some depth, and some that no depth is enough for.
	known = [][]int{
		{0}, {1}, {-1}, {100}, {-100}, {1, 0}, {0, 0}, {-1, 3}, {0, 1}, {1, -1}, {-1, 2}, {1, -3, 3}, {1, -5, 5}, {1, -6, 9}, {1, -3, 2}, {-1, 100}, {-1, 64}, {1, -64}, {-63, 64}, {-1, 63}, {0, 0, 0, 0, 0, 0, 1}, {0, 0, 0, 0, 0, 0, 0},
		{1, -4, 4}, {1, -7, 11}, {2, -11, 15}, {1, -11, 29}, {4, -23, 33}, {6, -41, 70},
		{1, -2, 2}, {1, -4, 5}, {1, -5, 7}, {3, -15, 19}, {1, -13, 43}, {1, -18, 82},
		{1, -4, 7, -9}, {-1, 7, -18, 20}, {2, -25, 82, -77}, {4, -30, 79, -74}, {2, -11, 12, 14, -19}, {-2, 22, -58}, {-1, 7, -12, -1, -2, 12}, {10, -49, 60}, {-1, 15, -10, -75, 91}, {2, -23, 66}, {-4, 40, -100, 28, 90},
		{4, -12, 9}, {-1, 0, 4, 0, -4}, {1, -2, -1, 2, 1, 0}, {12, -72, 4, 89, 75, -45, -73}, {43, -11, -62, -9, -9, 52, -2}, {-2, 3, -3, 1, 19, -12, -13}, {49, -88, -49, 83, -24, 90}, {31, -40, -57, -1, 59, 79}, {-18, -35, 53, 97, -98}, {1, -6, 5, 10, 7, 15}, {1, -6, -4, 19, 11, -14, -14},
		{100, 100, 100, 100, 100, 100, 100}, {-100, -100, -100, -100, -100, -100, -100}, {100, -100, 100, -100, 100, -100, 100}, {-100, 100, -100, 100, -100, 100, -100},
	}
)

// chance is a sequence of numbers that follow from a seed.
func chance(seed uint64) func(below int) int {
	return func(below int) int {
		seed = seed*6364136223846793005 + 1442695040888963407
		return int((seed >> 33) % uint64(below))
	}
}

// filled is a list of numbers from -most to most that follow from a seed.
func filled(count, most int, seed uint64) []int {
	next := chance(seed)
	p := make([]int, count)
	for i := range p {
		p[i] = next(2*most+1) - most
	}
	return p
}

// eachList calls do for all lists of numbers from -most to most.
func eachList(count, most int, do func(p []int)) {
	p := slices.Repeat([]int{-most}, count)
	for {
		do(p)
		place := 0
		for place < count && p[place] == most {
			p[place] = -most
			place++
		}
		if place == count {
			return
		}
		p[place]++
	}
}

// shifted is lists with the first number changed, so that the values come close to 0, and also those of their opposites.
func shifted(p []int) [][]int {
	var list [][]int
	for first := -3; first <= 3; first++ {
		up, down := slices.Clone(p), slices.Clone(p)
		up[0] = max(-100, min(100, p[0]+first))
		for i, number := range up {
			down[i] = -number
		}
		list = append(list, up, down)
	}
	return list
}

// somePolynomials is the known ones, small ones, and many others; with a step greater than 1 only a part of these.
func somePolynomials(step int) [][]int {
	list := slices.Clone(known)
	for _, p := range known[22:] {
		list = append(list, shifted(p)...)
	}
	count := 0
	add := func(p []int) {
		if count%step == 0 {
			list = append(list, slices.Clone(p))
		}
		count++
	}
	eachList(1, 2, add)
	eachList(2, 4, add)
	eachList(3, 4, add)
	for size := 1; size <= 7; size++ {
		for seed := range uint64(150) {
			for _, most := range []int{1, 5, 20, 100} {
				add(filled(size, most, seed*16+uint64(size)))
			}
		}
	}
	return list
}

// allPieces is all pieces.
func allPieces() [][2]int {
	var list [][2]int
	for depth := range 7 {
		for number := range 1 << depth {
			list = append(list, [2]int{depth, number})
		}
	}
	return list
}

// rat is a fraction without bounds.
func rat(f [2]int64) *big.Rat {
	return big.NewRat(f[0], f[1])
}

// pair is a fraction as calls return it.
func pair(r *big.Rat) [2]int64 {
	return [2]int64{r.Num().Int64(), r.Denom().Int64()}
}

// isLowest is whether a pair is a fraction in lowest terms.
func isLowest(f [2]int64) bool {
	return f[1] > 0 && pair(rat(f)) == f
}

// valueAt is the value of a polynomial, by its definition.
func valueAt(p []int, x *big.Rat) *big.Rat {
	whole, power := new(big.Rat), big.NewRat(1, 1)
	for _, number := range p {
		whole.Add(whole, new(big.Rat).Mul(big.NewRat(int64(number), 1), power))
		power = new(big.Rat).Mul(power, x)
	}
	return whole
}

// polar is the sum, over all k and all sets of k of the numbers, of p[k] times their product, by binomial coefficients: what lies behind corners, which are the values for numbers that are all ends of the interval.
func polar(p []int, numbers []int64, scale int64) int64 {
	// sets is the sums of products of k numbers each.
	sets := []int64{1, 0, 0, 0, 0, 0, 0}
	for _, number := range numbers {
		for k := len(sets) - 1; k > 0; k-- {
			sets[k] += sets[k-1] * number
		}
	}
	whole := int64(0)
	n := len(p) - 1
	for k, number := range p {
		ways := new(big.Int).Binomial(int64(n), int64(k)).Int64()
		term := int64(number) * sets[k] * (60 / ways)
		for range n - k {
			term *= scale
		}
		whole += term
	}
	return whole
}

// overs is the corners on a piece, times 60 and a power of two.
func overs(p []int, piece [2]int) []int64 {
	var list []int64
	n := len(p) - 1
	for i := range p {
		numbers := slices.Concat(slices.Repeat([]int64{int64(piece[1])}, n-i), slices.Repeat([]int64{int64(piece[1]) + 1}, i))
		list = append(list, polar(p, numbers, 1<<piece[0]))
	}
	return list
}

// cornersOn is the corners on a piece.
func cornersOn(p []int, piece [2]int) [][2]int64 {
	var list [][2]int64
	for _, over := range overs(p, piece) {
		list = append(list, pair(big.NewRat(over, 60<<(piece[0]*(len(p)-1)))))
	}
	return list
}

// bent is the sum of the definition of corners, at a share of the interval.
func bent(corners [][2]int64, share *big.Rat) *big.Rat {
	n := len(corners) - 1
	rest := new(big.Rat).Sub(big.NewRat(1, 1), share)
	whole := new(big.Rat)
	for i, corner := range corners {
		term := rat(corner)
		term.Mul(term, new(big.Rat).SetInt(new(big.Int).Binomial(int64(n), int64(i))))
		for range i {
			term.Mul(term, share)
		}
		for range n - i {
			term.Mul(term, rest)
		}
		whole.Add(whole, term)
	}
	return whole
}

// areAlike is whether the corners are those, in lowest terms, of the polynomial that has the values at the shares of the interval. Polynomials of degree 6 that agree at eight places are the same.
func areAlike(corners [][2]int64, values func(share *big.Rat) *big.Rat) bool {
	for _, corner := range corners {
		if !isLowest(corner) {
			return false
		}
	}
	for place := int64(-3); place <= 4; place++ {
		share := big.NewRat(place, 3)
		if bent(corners, share).Cmp(values(share)) != 0 {
			return false
		}
	}
	return true
}

// inside is where a share of a piece lies.
func inside(piece [2]int, share *big.Rat) *big.Rat {
	x := new(big.Rat).Add(share, big.NewRat(int64(piece[1]), 1))
	return x.Quo(x, big.NewRat(1<<piece[0], 1))
}

// changesOf is the definition of changes.
func changesOf(list []int64) int {
	signs := slices.DeleteFunc(slices.Clone(list), func(x int64) bool { return x == 0 })
	changes := 0
	for i := 1; i < len(signs); i++ {
		if (signs[i] < 0) != (signs[i-1] < 0) {
			changes++
		}
	}
	return changes
}

// isPositiveOn is whether all corners on a piece are greater than 0.
func isPositiveOn(p []int, piece [2]int) bool {
	return slices.Min(overs(p, piece)) > 0
}

// isReadOn is whether the corners on a piece have at most one change.
func isReadOn(p []int, piece [2]int) bool {
	return changesOf(overs(p, piece)) <= 1
}

// isCovered is whether some pieces that are right cover this one just once.
func isCovered(p []int, piece [2]int, isRight func(p []int, piece [2]int) bool) bool {
	if isRight(p, piece) {
		return true
	}
	depth, number := piece[0]+1, 2*piece[1]
	return depth <= 6 && isCovered(p, [2]int{depth, number}, isRight) && isCovered(p, [2]int{depth, number + 1}, isRight)
}

// isPiece is the definition of a piece.
func isPiece(piece [2]int) bool {
	return piece[0] >= 0 && piece[0] <= 6 && piece[1] >= 0 && piece[1] <= 1<<piece[0]-1
}

// covers is whether pieces, from left to right, cover [0, 1] just once: each sixty-fourth of it is in just one, and they come in this order.
func covers(pieces [][2]int) bool {
	var parts []int
	for _, piece := range pieces {
		if !isPiece(piece) || len(parts) > 64 {
			return false
		}
		for part := range 64 {
			if part>>(6-piece[0]) == piece[1] {
				parts = append(parts, part)
			}
		}
	}
	if len(parts) != 64 {
		return false
	}
	for i, part := range parts {
		if i != part {
			return false
		}
	}
	return true
}

// isProof is the definition of a proof.
func isProof(p []int, pieces [][2]int) bool {
	return covers(pieces) && !slices.ContainsFunc(pieces, func(piece [2]int) bool { return !isPositiveOn(p, piece) })
}

// isPlain is the definition of what is plain.
func isPlain(p []int) bool {
	for k := range int64(65) {
		if valueAt(p, big.NewRat(k, 64)).Sign() == 0 {
			return false
		}
	}
	return true
}

// positive, low, count are results of calls that must be OK.
func positive(t *testing.T, p []int) (bool, [][2]int) {
	t.Helper()
	ok, proof, e := bern.Positive(p)
	if e != api.OK {
		t.Error(p, e)
	}
	return ok, proof
}

func low(t *testing.T, p []int) ([2]int64, bool) {
	t.Helper()
	x, ok, e := bern.Low(p)
	if e != api.OK {
		t.Error(p, e)
	}
	return x, ok
}

// changes is the changes of corners, which need not be ones that calls take.
func changes(corners [][2]int64) int {
	var list []int64
	for _, corner := range corners {
		list = append(list, corner[0])
	}
	return changesOf(list)
}
