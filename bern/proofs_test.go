package bern_test

import (
	"math"
	"math/big"
	"slices"
	"testing"

	"girouette/api"
	"girouette/bern"
)

// checkPositive compares Positive with the definition of a proof; it is whether it returned true.
func checkPositive(t *testing.T, p []int) bool {
	t.Helper()
	ok, proof := positive(t, p)
	if ok != isCovered(p, [2]int{0, 0}, isPositiveOn) || ok != isProof(p, proof) || !ok && len(proof) > 0 {
		t.Error(p, ok, proof)
	}
	if is, e := bern.IsProof(p, proof); is != ok || e != api.OK {
		t.Error(p, proof, is, e)
	}
	return ok
}

// TestPositive: P8.3.
func TestPositive(t *testing.T) {
	yes, no := 0, 0
	for _, p := range somePolynomials(1) {
		if checkPositive(t, p) {
			yes++
		} else {
			no++
		}
	}
	if yes < 500 || no < 500 {
		t.Error(yes, no)
	}
}

// TestPositiveSmall: P8.3, all polynomials with up to four small coefficients.
func TestPositiveSmall(t *testing.T) {
	for size, most := range []int{0, 100, 20, 8, 3} {
		if size > 0 {
			eachList(size, most, func(p []int) { checkPositive(t, p) })
		}
	}
}

// TestDepthsOfProofs: P8.3, polynomials with proofs that need pieces of each depth, and some without one.
func TestDepthsOfProofs(t *testing.T) {
	for depth, p := range [][]int{{1, 0, 0}, {1, -2, 2}, {1, -4, 5}, {1, -5, 7}, {3, -15, 19}, {1, -13, 43}, {1, -18, 82}} {
		ok, proof := positive(t, p)
		deepest := 0
		for _, piece := range proof {
			deepest = max(deepest, piece[0])
		}
		if !ok || deepest < depth || !isProof(p, proof) {
			t.Error(depth, p, ok, proof)
		}
	}
	for _, p := range [][]int{{0}, {-5}, {0, 1}, {1, -1}, {-1, 3}, {1, -6, 9}, {4, -12, 9}, {43, -11, -62, -9, -9, 52, -2}, {49, -88, -49, 83, -24, 90}, {0, 0, 0, 0, 0, 0, 1}, {-100, -100, -100, -100, -100, -100, -100}} {
		if ok, proof, e := bern.Positive(p); ok || len(proof) > 0 || e != api.OK {
			t.Error(p, ok, proof, e)
		}
	}
}

// tiling is pieces that cover [0, 1] just once, cut by chance.
func tiling(piece [2]int, next func(below int) int) [][2]int {
	if piece[0] == 6 || next(5) < 2 {
		return [][2]int{piece}
	}
	depth, number := piece[0]+1, 2*piece[1]
	return append(tiling([2]int{depth, number}, next), tiling([2]int{depth, number + 1}, next)...)
}

// spoilt is lists that are much like a tiling, most of which are none.
func spoilt(pieces [][2]int, next func(below int) int) [][][2]int {
	place, other := next(len(pieces)), next(len(pieces))
	piece := pieces[place]
	swapped, changed := slices.Clone(pieces), slices.Clone(pieces)
	swapped[place], swapped[other] = swapped[other], swapped[place]
	changed[place] = [2]int{next(9) - 1, next(66) - 1}
	wide := slices.Clone(pieces)
	wide[place] = [2]int{piece[0] - 1, piece[1] / 2}
	again := slices.Clone(pieces)
	again[place] = [2]int{piece[0] + 1, 2*piece[1] + next(2)}
	return [][][2]int{
		swapped, changed, wide, again,
		slices.Delete(slices.Clone(pieces), place, place+1),
		slices.Insert(slices.Clone(pieces), place, piece),
		slices.Insert(slices.Clone(pieces), place, [2]int{piece[0] + 1, 2 * piece[1]}),
		slices.Insert(slices.Clone(pieces), place+1, [2]int{piece[0] + 1, 2*piece[1] + 1}),
		append(slices.Clone(pieces), piece),
		append(slices.Clone(pieces), pieces...),
		slices.Insert(slices.Clone(pieces), 0, [2]int{0, 0}),
	}
}

// checkIsProof compares IsProof with the definition; it is whether it returned true.
func checkIsProof(t *testing.T, p []int, pieces [][2]int) bool {
	t.Helper()
	got, e := bern.IsProof(p, pieces)
	if got != isProof(p, pieces) || e != api.OK {
		t.Error(p, pieces, got, e)
	}
	return got
}

// TestIsProof: P8.3.
func TestIsProof(t *testing.T) {
	yes, no := 0, 0
	for i, p := range somePolynomials(4) {
		if ok, _ := positive(t, p); !ok && i%4 > 0 {
			continue
		}
		for seed := range uint64(6) {
			next := chance(seed*1000 + uint64(i))
			pieces := tiling([2]int{0, 0}, next)
			if !covers(pieces) {
				t.Fatal(pieces)
			}
			lists := append(spoilt(pieces, next), pieces)
			if _, proof := positive(t, p); len(proof) > 0 {
				lists = append(lists, spoilt(proof, next)...)
			}
			for _, list := range lists {
				if checkIsProof(t, p, list) {
					yes++
				} else {
					no++
				}
			}
		}
	}
	if yes < 500 || no < 500 {
		t.Error(yes, no)
	}
}

// TestIsProofOfAnything: P8.3 and R9, lists of pairs that need not be pieces.
func TestIsProofOfAnything(t *testing.T) {
	numbers := append([]int{0, 1, 2, 6, 7}, far...)
	for _, p := range [][]int{{5}, {1, -3, 3}, {-1, 3}} {
		checkIsProof(t, p, nil)
		for _, depth := range numbers {
			for _, number := range numbers {
				pair := [2]int{depth, number}
				checkIsProof(t, p, [][2]int{pair})
				checkIsProof(t, p, [][2]int{{0, 0}, pair})
				checkIsProof(t, p, [][2]int{pair, {0, 0}})
				checkIsProof(t, p, [][2]int{{1, 0}, pair})
				checkIsProof(t, p, [][2]int{pair, {1, 1}})
				checkIsProof(t, p, [][2]int{{1, 0}, {1, 1}, pair})
				checkIsProof(t, p, [][2]int{{1, 0}, pair, {1, 1}})
			}
		}
		checkIsProof(t, p, slices.Repeat([][2]int{{0, 0}}, 100000))
		checkIsProof(t, p, slices.Repeat([][2]int{{6, 0}}, 100000))
		var parts [][2]int
		for number := range 64 {
			parts = append(parts, [2]int{6, number})
		}
		if !covers(parts) {
			t.Error(parts)
		}
		checkIsProof(t, p, parts)
		checkIsProof(t, p, append(parts, [2]int{6, 64}))
		checkIsProof(t, p, parts[1:])
		checkIsProof(t, p, append(parts, slices.Repeat([][2]int{{math.MaxInt, math.MinInt}}, 1000)...))
	}
}

// TestKnownProofs: P8.3, proofs that are known.
func TestKnownProofs(t *testing.T) {
	for _, c := range []struct {
		p      []int
		pieces [][2]int
		want   bool
	}{
		{[]int{5}, [][2]int{{0, 0}}, true},
		{[]int{5}, [][2]int{{1, 0}, {2, 2}, {2, 3}}, true},
		{[]int{5}, nil, false},
		{[]int{0}, [][2]int{{0, 0}}, false},
		{[]int{1, -3, 3}, [][2]int{{0, 0}}, false},
		{[]int{1, -3, 3}, [][2]int{{1, 0}, {1, 1}}, true},
		{[]int{1, -3, 3}, [][2]int{{1, 1}, {1, 0}}, false},
		{[]int{1, -3, 3}, [][2]int{{1, 0}}, false},
		{[]int{1, -3, 3}, [][2]int{{1, 0}, {1, 1}, {1, 1}}, false},
		{[]int{1, -3, 3}, [][2]int{{1, 0}, {1, 1}, {2, 3}}, false},
		{[]int{1, -3, 3}, [][2]int{{2, 0}, {2, 1}, {1, 1}}, true},
		{[]int{1, -3, 3}, [][2]int{{2, 0}, {1, 1}, {2, 1}}, false},
		{[]int{1, -2, 2}, [][2]int{{0, 0}}, false},
		{[]int{1, -2, 2}, [][2]int{{1, 0}, {1, 1}}, true},
		{[]int{0, 1}, [][2]int{{1, 0}, {1, 1}}, false},
	} {
		if got, e := bern.IsProof(c.p, c.pieces); got != c.want || e != api.OK {
			t.Error(c.p, c.pieces, got, e)
		}
	}
}

// checkLow compares Low with the definition; it is the denominator, or 0.
func checkLow(t *testing.T, p []int) int64 {
	t.Helper()
	var want [2]int64
	found := false
	for d := 0; d <= 6 && !found; d++ {
		for k := 0; k <= 1<<d && !found; k++ {
			x := big.NewRat(int64(k), 1<<d)
			if valueAt(p, x).Sign() <= 0 {
				want, found = pair(x), true
			}
		}
	}
	if got, ok := low(t, p); got != want || ok != found {
		t.Error(p, got, ok, want)
	}
	return want[1]
}

// TestLow: P8.3.
func TestLow(t *testing.T) {
	unders := map[int64]int{}
	for _, p := range somePolynomials(1) {
		unders[checkLow(t, p)]++
	}
	for _, under := range []int64{0, 1, 2, 4, 8, 16, 32, 64} {
		if unders[under] == 0 {
			t.Error(under, unders)
		}
	}
}

// TestKnownLows: P8.3, the least depth comes first, and then the least number.
func TestKnownLows(t *testing.T) {
	for _, c := range []struct {
		p    []int
		want [2]int64
	}{
		{[]int{-1, 3}, [2]int64{0, 1}},
		{[]int{0}, [2]int64{0, 1}},
		{[]int{-1}, [2]int64{0, 1}},
		{[]int{0, 1}, [2]int64{0, 1}},
		{[]int{1, -1}, [2]int64{1, 1}},
		{[]int{1, -3, 2}, [2]int64{1, 1}},
		{[]int{3, -16, 14}, [2]int64{1, 2}},
		{[]int{1, -5, 5}, [2]int64{1, 2}},
		{[]int{1, -4, 4}, [2]int64{1, 2}},
		{[]int{1, -7, 11}, [2]int64{1, 4}},
		{[]int{9, -24, 16}, [2]int64{3, 4}},
		{[]int{2, -11, 15}, [2]int64{3, 8}},
		{[]int{1, -11, 29}, [2]int64{3, 16}},
		{[]int{4, -23, 33}, [2]int64{11, 32}},
		{[]int{6, -41, 70}, [2]int64{19, 64}},
	} {
		if got, ok := low(t, c.p); got != c.want || !ok {
			t.Error(c.p, got, ok)
		}
	}
	for _, p := range [][]int{{1}, {7, 1}, {1, -6, 9}, {1, -3, 3}, {31, -40, -57, -1, 59, 79}, {43, -11, -62, -9, -9, 52, -2}} {
		if got, ok, e := bern.Low(p); got != [2]int64{} || ok || e != api.OK {
			t.Error(p, got, ok, e)
		}
	}
}
