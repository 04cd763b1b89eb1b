package bern_test

import (
	"math/big"
	"slices"
	"testing"

	"girouette/api"
	"girouette/bern"
)

// bounds is the least and the greatest of fractions.
func bounds(list [][2]int64) (*big.Rat, *big.Rat) {
	compare := func(a, b [2]int64) int { return rat(a).Cmp(rat(b)) }
	return rat(slices.MinFunc(list, compare)), rat(slices.MaxFunc(list, compare))
}

// TestCornersAreAround: P8.5, values lie between the least and the greatest corner, and those at the ends are the first and the last one.
func TestCornersAreAround(t *testing.T) {
	pieces := allPieces()
	for i, p := range somePolynomials(10) {
		for k, piece := range pieces {
			if i > 20 && (i+k)%31 > 0 {
				continue
			}
			corners, e := bern.Corners(p, piece)
			if e != api.OK {
				t.Error(p, piece, e)
				continue
			}
			least, greatest := bounds(corners)
			for part := range 5 {
				x := inside(piece, big.NewRat(int64(part), 4))
				if x.Denom().Int64() > 64 {
					continue
				}
				value, e := bern.Value(p, pair(x))
				if e != api.OK || rat(value).Cmp(least) < 0 || rat(value).Cmp(greatest) > 0 {
					t.Error(p, piece, x, value, e)
				}
				if part == 0 && value != corners[0] || part == 4 && value != corners[len(corners)-1] {
					t.Error(p, piece, x, value, corners)
				}
			}
		}
	}
}

// TestRaiseLowers: P8.5.
func TestRaiseLowers(t *testing.T) {
	for _, corners := range someCorners() {
		raised, e := bern.Raise(corners)
		if len(corners) == 7 {
			continue
		}
		least, greatest := bounds(corners)
		lower, higher := bounds(raised)
		if e != api.OK || higher.Cmp(greatest) > 0 || lower.Cmp(least) < 0 || changes(raised) > changes(corners) {
			t.Error(corners, raised, e)
		}
	}
}

// TestChangesOfHalves: P8.5.
func TestChangesOfHalves(t *testing.T) {
	for _, corners := range someCorners() {
		halves, e := bern.Halves(corners)
		whole, f := bern.Changes(corners)
		if e != api.OK || f != api.OK || changes(halves[0])+changes(halves[1]) > whole {
			t.Error(corners, halves, whole, e, f)
		}
	}
}

// TestDescartes: P8.6, where there is a Count.
func TestDescartes(t *testing.T) {
	many, more := 0, 0
	for _, p := range somePolynomials(1) {
		count, e := bern.Count(p)
		if e != api.OK {
			continue
		}
		corners, e := bern.Corners(p, [2]int{0, 0})
		changes, f := bern.Changes(corners)
		if e != api.OK || f != api.OK || changes < count || (changes-count)%2 != 0 {
			t.Error(p, corners, changes, count, e, f)
		}
		many++
		if changes > count {
			more++
		}
	}
	if many < 500 || more < 50 {
		t.Error(many, more)
	}
}

// TestMirrorKeeps: P8.6.
func TestMirrorKeeps(t *testing.T) {
	many := 0
	for _, p := range somePolynomials(1) {
		mirror, e := bern.Mirror(p)
		if e != api.OK {
			continue
		}
		many++
		count, e := bern.Count(p)
		other, f := bern.Count(mirror)
		if count != other || e != f {
			t.Error(p, mirror, count, other, e, f)
		}
		ok, _ := positive(t, p)
		if both, _ := positive(t, mirror); ok != both {
			t.Error(p, mirror, ok, both)
		}
	}
	if many < 500 {
		t.Error(many)
	}
}

// TestPositiveIsNeverLow: P8.7.
func TestPositiveIsNeverLow(t *testing.T) {
	many := 0
	for _, p := range somePolynomials(1) {
		if ok, _ := positive(t, p); !ok {
			continue
		}
		many++
		if x, isLow := low(t, p); isLow {
			t.Error(p, x)
		}
		if count, e := bern.Count(p); e == api.ErrNone || count != 0 {
			t.Error(p, count, e)
		}
	}
	if many < 500 {
		t.Error(many)
	}
}
