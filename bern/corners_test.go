package bern_test

import (
	"math/big"
	"slices"
	"testing"

	"girouette/api"
	"girouette/bern"
)

// TestCorners: P8.2, by the definition.
func TestCorners(t *testing.T) {
	pieces := allPieces()
	for i, p := range somePolynomials(15) {
		for k, piece := range pieces {
			if i > 10 && (i+k)%23 > 0 {
				continue
			}
			got, e := bern.Corners(p, piece)
			values := func(share *big.Rat) *big.Rat { return valueAt(p, inside(piece, share)) }
			if len(got) != len(p) || !areAlike(got, values) || e != api.OK {
				t.Error(p, piece, got, e)
			}
		}
	}
}

// TestCornersOften: P8.2, by the polar values that the other tests use too.
func TestCornersOften(t *testing.T) {
	pieces := allPieces()
	for i, p := range somePolynomials(1) {
		for k, piece := range pieces {
			if i >= len(known) && (i+k)%11 > 0 {
				continue
			}
			if got, e := bern.Corners(p, piece); !slices.Equal(got, cornersOn(p, piece)) || e != api.OK {
				t.Error(p, piece, got, e)
			}
		}
	}
}

// TestKnownCorners: P8.2, corners that are known.
func TestKnownCorners(t *testing.T) {
	for _, c := range []struct {
		p     []int
		piece [2]int
		want  [][2]int64
	}{
		{[]int{1, 0}, [2]int{0, 0}, [][2]int64{{1, 1}, {1, 1}}},
		{[]int{-1, 3}, [2]int{0, 0}, [][2]int64{{-1, 1}, {2, 1}}},
		{[]int{1, -3, 3}, [2]int{0, 0}, [][2]int64{{1, 1}, {-1, 2}, {1, 1}}},
		{[]int{1, -3, 3}, [2]int{1, 0}, [][2]int64{{1, 1}, {1, 4}, {1, 4}}},
		{[]int{1, -3, 3}, [2]int{1, 1}, [][2]int64{{1, 4}, {1, 4}, {1, 1}}},
		{[]int{-7}, [2]int{6, 63}, [][2]int64{{-7, 1}}},
		{[]int{0}, [2]int{3, 7}, [][2]int64{{0, 1}}},
		{[]int{0, 1}, [2]int{6, 63}, [][2]int64{{63, 64}, {1, 1}}},
		{[]int{0, 1, 0, 0, 0, 0, 0}, [2]int{0, 0}, [][2]int64{{0, 1}, {1, 6}, {1, 3}, {1, 2}, {2, 3}, {5, 6}, {1, 1}}},
		{[]int{0, 0, 0, 1, 0, 0, 0}, [2]int{0, 0}, [][2]int64{{0, 1}, {0, 1}, {0, 1}, {1, 20}, {1, 5}, {1, 2}, {1, 1}}},
		{[]int{0, 0, 0, 0, 0, 0, 1}, [2]int{6, 0}, [][2]int64{{0, 1}, {0, 1}, {0, 1}, {0, 1}, {0, 1}, {0, 1}, {1, 1 << 36}}},
	} {
		if got, e := bern.Corners(c.p, c.piece); !slices.Equal(got, c.want) || e != api.OK {
			t.Error(c.p, c.piece, got, e)
		}
	}
}

// TestCornersOfNoPieces: P8.2 and R9.
func TestCornersOfNoPieces(t *testing.T) {
	numbers := append([]int{0, 1, 2, 3, 4, 5, 6, 7, 8, 15, 16, 31, 32, 63}, far...)
	for _, p := range known {
		for _, depth := range numbers {
			for _, number := range numbers {
				piece := [2]int{depth, number}
				got, e := bern.Corners(p, piece)
				if isPiece(piece) {
					if len(got) != len(p) || e != api.OK {
						t.Error(p, piece, got, e)
					}
				} else if len(got) > 0 || e != api.ErrArg {
					t.Error(p, piece, got, e)
				}
			}
		}
	}
}

// unders is the denominators of corners that are arguments.
var unders = []int64{1, 2, 3, 4, 5, 6, 8, 10, 12, 15, 16, 20, 24, 30, 40, 48, 60, 80, 120, 240}

// greatest is the greatest numerators that corners with a denominator have.
func greatest(under int64) int64 {
	over := int64(1_000_000)
	for !isLowest([2]int64{over, under}) {
		over--
	}
	return over
}

// someCorners is lists of corners that calls take: the corners on [0, 1] of polynomials, lists of any fractions, and the greatest ones.
func someCorners() [][][2]int64 {
	var list [][][2]int64
	for _, p := range somePolynomials(10) {
		list = append(list, cornersOn(p, [2]int{0, 0}))
	}
	for size := 1; size <= 7; size++ {
		for seed := range uint64(60) {
			next := chance(seed*8 + uint64(size))
			var corners [][2]int64
			for range size {
				corner := [2]int64{int64(next([]int{5, 1000, 2000001}[seed%3])), 1}
				corner[0] -= []int64{2, 500, 1000000}[seed%3]
				corner = pair(big.NewRat(corner[0], unders[next(len(unders))]))
				corners = append(corners, corner)
			}
			list = append(list, corners)
		}
		for i, under := range unders {
			over, mixed := greatest(under), [][2]int64{}
			for k := range size {
				other := unders[(i+k)%len(unders)]
				mixed = append(mixed, [2]int64{greatest(other) * int64(1-k%2*2), other})
			}
			list = append(list, mixed, slices.Repeat([][2]int64{{over, under}}, size), slices.Repeat([][2]int64{{-over, under}}, size))
		}
	}
	return list
}

// TestRaise: P8.2, by the definition.
func TestRaise(t *testing.T) {
	for _, corners := range someCorners() {
		got, e := bern.Raise(corners)
		if len(corners) == 7 {
			if len(got) > 0 || e != api.ErrArg {
				t.Error(corners, got, e)
			}
			continue
		}
		values := func(share *big.Rat) *big.Rat { return bent(corners, share) }
		if len(got) != len(corners)+1 || !areAlike(got, values) || e != api.OK {
			t.Error(corners, got, e)
		}
	}
}

// TestRaiseOfPolynomials: P8.2 and W3, polynomials with one more coefficient, which is 0.
func TestRaiseOfPolynomials(t *testing.T) {
	for _, p := range somePolynomials(2) {
		if len(p) == 7 {
			continue
		}
		corners, e := bern.Corners(p, [2]int{0, 0})
		got, f := bern.Raise(corners)
		want, g := bern.Corners(append(slices.Clone(p), 0), [2]int{0, 0})
		if !slices.Equal(got, want) || e != api.OK || f != api.OK || g != api.OK {
			t.Error(p, corners, got, want, e, f, g)
		}
	}
}

// TestHalves: P8.2, by the definition.
func TestHalves(t *testing.T) {
	for _, corners := range someCorners() {
		got, e := bern.Halves(corners)
		for side, half := range got {
			values := func(share *big.Rat) *big.Rat { return bent(corners, inside([2]int{1, side}, share)) }
			if len(half) != len(corners) || !areAlike(half, values) || e != api.OK {
				t.Error(corners, side, half, e)
			}
		}
	}
}

// TestHalvesOfPolynomials: P8.2, the halves of [0, 1] are pieces.
func TestHalvesOfPolynomials(t *testing.T) {
	for _, p := range somePolynomials(2) {
		whole, e := bern.Corners(p, [2]int{0, 0})
		got, f := bern.Halves(whole)
		for side, half := range got {
			want, g := bern.Corners(p, [2]int{1, side})
			if !slices.Equal(half, want) || e != api.OK || f != api.OK || g != api.OK {
				t.Error(p, side, half, want, e, f, g)
			}
		}
	}
}

// TestRaiseOfHalves: P8.2 and W3, halves that are raised are the halves of what is raised.
func TestRaiseOfHalves(t *testing.T) {
	many := 0
	for _, corners := range someCorners() {
		halves, e := bern.Halves(corners)
		raised, f := bern.Raise(corners)
		if e != api.OK || f != api.OK {
			continue
		}
		want, e := bern.Halves(raised)
		if e != api.OK {
			continue
		}
		for side, half := range halves {
			got, e := bern.Raise(half)
			if e != api.OK {
				continue
			}
			many++
			if !slices.Equal(got, want[side]) {
				t.Error(corners, side, got, want)
			}
		}
	}
	if many < 100 {
		t.Error(many)
	}
}

// TestAt: P8.2, by the definition.
func TestAt(t *testing.T) {
	all := shares(16)
	for i, corners := range someCorners() {
		for k, x := range all {
			if (i+k)%5 > 0 {
				continue
			}
			if got, e := bern.At(corners, x); got != pair(bent(corners, rat(x))) || e != api.OK {
				t.Error(corners, x, got, e)
			}
		}
	}
}

// TestAtIsValue: P8.2, the corners on [0, 1] and Value.
func TestAtIsValue(t *testing.T) {
	for _, p := range somePolynomials(20) {
		corners, e := bern.Corners(p, [2]int{0, 0})
		for _, x := range shares(16) {
			got, f := bern.At(corners, x)
			want, g := bern.Value(p, x)
			if got != want || e != api.OK || f != api.OK || g != api.OK {
				t.Error(p, x, got, want, e, f, g)
			}
		}
	}
}

// TestAtNoShare: P8.2 and R9.
func TestAtNoShare(t *testing.T) {
	for _, corners := range [][][2]int64{{{1, 1}}, {{-1, 1}, {2, 1}}, {{1, 2}, {0, 1}, {-1, 240}, {5, 1}, {6, 1}, {7, 1}, {8, 1}}} {
		for _, x := range append([][2]int64{{1, 17}, {16, 17}, {1, 64}, {0, 17}}, noShares...) {
			if got, e := bern.At(corners, x); got != [2]int64{} || e != api.ErrArg {
				t.Error(corners, x, got, e)
			}
		}
		for over := int64(-3); over <= 20; over++ {
			for under := int64(-20); under <= 20; under++ {
				x := [2]int64{over, under}
				isRight := under >= 1 && under <= 16 && over >= 0 && over <= under && isLowest(x)
				if _, e := bern.At(corners, x); (e == api.OK) != isRight || !isRight && e != api.ErrArg {
					t.Error(x, e)
				}
			}
		}
	}
}

// TestChanges: P8.2, all lists of signs.
func TestChanges(t *testing.T) {
	for size := 1; size <= 7; size++ {
		eachList(size, 1, func(signs []int) {
			var corners [][2]int64
			var list []int64
			for i, sign := range signs {
				corner := pair(big.NewRat(int64(sign*(i*i+1)), unders[(i*7+size)%len(unders)]))
				corners = append(corners, corner)
				list = append(list, corner[0])
			}
			if got, e := bern.Changes(corners); got != changesOf(list) || e != api.OK {
				t.Error(corners, got, e)
			}
		})
	}
	for _, corners := range someCorners() {
		if got, e := bern.Changes(corners); got != changes(corners) || e != api.OK {
			t.Error(corners, got, e)
		}
	}
}

// TestKnownLists: P8.2, results that are known.
func TestKnownLists(t *testing.T) {
	if got, e := bern.Raise([][2]int64{{-1, 1}, {2, 1}}); !slices.Equal(got, [][2]int64{{-1, 1}, {1, 2}, {2, 1}}) || e != api.OK {
		t.Error(got, e)
	}
	if got, e := bern.Raise([][2]int64{{0, 1}, {0, 1}, {0, 1}, {0, 1}, {0, 1}, {1, 240}}); !slices.Equal(got, [][2]int64{{0, 1}, {0, 1}, {0, 1}, {0, 1}, {0, 1}, {1, 1440}, {1, 240}}) || e != api.OK {
		t.Error(got, e)
	}
	if got, e := bern.Halves([][2]int64{{1, 1}, {-1, 2}, {1, 1}}); !slices.Equal(got[0], [][2]int64{{1, 1}, {1, 4}, {1, 4}}) || !slices.Equal(got[1], [][2]int64{{1, 4}, {1, 4}, {1, 1}}) || e != api.OK {
		t.Error(got, e)
	}
	if got, e := bern.At([][2]int64{{0, 1}, {0, 1}, {0, 1}, {0, 1}, {0, 1}, {0, 1}, {1, 240}}, [2]int64{1, 16}); got != [2]int64{1, 240 << 24} || e != api.OK {
		t.Error(got, e)
	}
	for want, corners := range [][][2]int64{{{0, 1}}, {{1, 1}, {0, 1}, {-1, 2}}, {{1, 1}, {0, 1}, {-1, 1}, {0, 1}, {3, 1}}, {{-1, 1}, {5, 1}, {0, 1}, {0, 1}, {-1, 1}, {1, 3}}} {
		if got, e := bern.Changes(corners); got != want || e != api.OK {
			t.Error(corners, got, e)
		}
	}
}

// refuses checks that all calls that take corners refuse these.
func refuses(t *testing.T, corners [][2]int64) {
	t.Helper()
	raised, e := bern.Raise(corners)
	halves, f := bern.Halves(corners)
	at, g := bern.At(corners, [2]int64{1, 2})
	many, h := bern.Changes(corners)
	if len(raised) > 0 || e != api.ErrArg || len(halves[0]) > 0 || len(halves[1]) > 0 || f != api.ErrArg || at != [2]int64{} || g != api.ErrArg || many != 0 || h != api.ErrArg {
		t.Error(len(corners), raised, e, halves, f, at, g, many, h)
	}
	if _, e := bern.At(corners, [2]int64{1, 17}); e != api.ErrArg {
		t.Error(len(corners), e)
	}
}

// takes checks that all calls that take corners take these.
func takes(t *testing.T, corners [][2]int64) {
	t.Helper()
	_, e := bern.Halves(corners)
	_, f := bern.At(corners, [2]int64{1, 2})
	_, g := bern.Changes(corners)
	_, h := bern.Raise(corners)
	if e != api.OK || f != api.OK || g != api.OK || (h == api.OK) != (len(corners) <= 6) {
		t.Error(corners, e, f, g, h)
	}
}

// TestSizesOfCorners: P8.2.
func TestSizesOfCorners(t *testing.T) {
	for size := range 12 {
		corners := slices.Repeat([][2]int64{{1, 1}}, size)
		if size >= 1 && size <= 7 {
			takes(t, corners)
		} else {
			refuses(t, corners)
		}
	}
	refuses(t, nil)
	refuses(t, slices.Repeat([][2]int64{{1, 1}}, 100000))
}

// TestNoCorners: P8.2 and R9, a pair in each place of a list.
func TestNoCorners(t *testing.T) {
	wrong := [][2]int64{{0, 0}, {1, 0}, {1, -1}, {-1, -1}, {0, -1}, {1, -240}, {0, 2}, {0, 240}, {2, 2}, {2, 4}, {-2, 4}, {120, 240}, {999999, 240}, {1, 480}, {1, 1 << 40}}
	for _, over := range far64 {
		wrong = append(wrong, [2]int64{over, 1}, [2]int64{over, 0}, [2]int64{over, -1}, [2]int64{over, 7}, [2]int64{1, over}, [2]int64{over, over})
	}
	for _, pair := range wrong {
		for size := 1; size <= 7; size++ {
			for place := range size {
				corners := slices.Repeat([][2]int64{{1, 2}}, size)
				corners[place] = pair
				refuses(t, corners)
			}
		}
	}
}

// TestUnders: P8.2, all denominators, with the last numerators that are in range and the first ones that are not.
func TestUnders(t *testing.T) {
	for under := int64(-250); under <= 1000; under++ {
		if !slices.Contains(unders, under) {
			refuses(t, [][2]int64{{1, under}})
			continue
		}
		for _, over := range []int64{-1000001, -1000000, -999999, -999998, -999997, -7, -2, -1, 0, 1, 2, 7, 999997, 999998, 999999, 1000000, 1000001} {
			corner := [2]int64{over, under}
			if isLowest(corner) && over >= -1000000 && over <= 1000000 {
				takes(t, [][2]int64{corner, {1, 1}})
			} else {
				refuses(t, [][2]int64{corner, {1, 1}})
			}
		}
	}
}
