package shells_test

import (
	"math"
	"slices"
	"testing"

	"girouette/api"
	"girouette/shells"
)

func TestLink(t *testing.T) {
	eachSmall(5, func(n int, pieces []int) {
		for face := range 1 << n {
			got, e := shells.Link(n, pieces, face)
			if !isFace(pieces, face) {
				if e != api.ErrArg || len(got) > 0 {
					t.Error("not a face", n, pieces, face, got, e)
				}
				continue
			}
			var sets []int
			for s := range 1 << n {
				if s&face == 0 && isFace(pieces, s|face) {
					sets = append(sets, s)
				}
			}
			if e != api.OK || !same(got, greatest(sets)) {
				t.Error(n, pieces, face, got, e)
			}
		}
	})
	for _, c := range []struct {
		face int
		want []int
		e    api.Errno
	}{
		{0, ring, api.OK},
		{1, []int{2, 4}, api.OK},
		{3, []int{0}, api.OK},
		{7, nil, api.ErrArg},
		{8, nil, api.ErrArg},
		{-1, nil, api.ErrArg},
		{64, nil, api.ErrArg},
		{math.MaxInt, nil, api.ErrArg},
		{math.MinInt, nil, api.ErrArg},
	} {
		if got, e := shells.Link(3, ring, c.face); e != c.e || !same(got, c.want) {
			t.Error(c, got, e)
		}
	}
}

func TestDual(t *testing.T) {
	eachSmall(5, func(n int, pieces []int) {
		var sets []int
		for s := range 1 << n {
			if !isFace(pieces, 1<<n-1-s) {
				sets = append(sets, s)
			}
		}
		want := greatest(sets)
		e := api.OK
		if len(want) == 0 || want[0] == 0 {
			want, e = nil, api.ErrNone
		} else if len(want) > 10 {
			want, e = nil, api.ErrLarge
		}
		if got, f := shells.Dual(n, pieces); f != e || !same(got, want) {
			t.Error(n, pieces, got, f, want, e)
		}
	})
	for _, c := range []struct {
		n            int
		pieces, want []int
		e            api.Errno
	}{
		{4, two, []int{5, 6, 9, 10}, api.OK},
		{2, []int{1}, []int{1}, api.OK},
		{2, []int{3}, nil, api.ErrNone},
		{2, []int{1, 2}, nil, api.ErrNone},
		{1, []int{1}, nil, api.ErrNone},
		{6, []int{63}, nil, api.ErrNone},
		{6, []int{31, 47, 55, 59, 61, 62}, nil, api.ErrNone},
		{6, []int{1, 2, 4, 8, 16, 32}, nil, api.ErrLarge},
		{6, plane, plane, api.OK},
	} {
		if got, e := shells.Dual(c.n, c.pieces); e != c.e || !same(got, c.want) {
			t.Error(c, got, e)
		}
	}
}

// inMoment is, by its definition, whether the set is a piece of the moment complex.
func inMoment(n, d, set int) bool {
	for i := range n {
		for k := i + 1; k < n; k++ {
			between := (1<<k - 1) &^ (1<<(i+1) - 1)
			if !part(1<<i, set) && !part(1<<k, set) && many(set&between)%2 == 1 {
				return false
			}
		}
	}
	return many(set) == d
}

func TestMoment(t *testing.T) {
	for n := -2; n <= 9; n++ {
		for d := -2; d <= 9; d++ {
			got, e := shells.Moment(n, d)
			if d < 2 || d >= n || n > 6 {
				if e != api.ErrArg || len(got) > 0 {
					t.Error(n, d, got, e)
				}
				continue
			}
			var want []int
			for s := range 1 << n {
				if inMoment(n, d, s) {
					want = append(want, s)
				}
			}
			if e != api.OK || !same(got, want) {
				t.Error(n, d, got, want, e)
			}
		}
	}
	for _, c := range [][2]int{{math.MaxInt, 3}, {5, math.MinInt}, {math.MaxInt, math.MaxInt}, {math.MinInt, math.MinInt}, {6, 6}, {7, 6}, {6, 1}} {
		if got, e := shells.Moment(c[0], c[1]); e != api.ErrArg || len(got) > 0 {
			t.Error(c, got, e)
		}
	}
}

// TestMomentComplexes: P1.9.
func TestMomentComplexes(t *testing.T) {
	for n := 3; n <= 6; n++ {
		for d := 2; d < n; d++ {
			pieces, _ := shells.Moment(n, d)
			hs, e := shells.Hs(n, pieces)
			back := slices.Clone(hs)
			slices.Reverse(back)
			if e != api.OK || !same(hs, back) {
				t.Error(n, d, pieces, hs, e)
			}
			if _, ok, _ := shells.Shell(n, pieces); !ok {
				t.Error(n, d, pieces)
			}
			faces, _ := shells.Faces(n, pieces)
			for _, f := range faces {
				link, _ := shells.Link(n, pieces, f)
				if many(f) == d-1 && len(link) != 2 {
					t.Error(n, d, pieces, f, link)
				}
			}
		}
	}
	pieces, _ := shells.Moment(5, 3)
	if hs, _ := shells.Hs(5, pieces); len(pieces) != 6 || !same(hs, []int{1, 2, 2, 1}) {
		t.Error(pieces, hs)
	}
}

func TestMade(t *testing.T) {
	over := []int{7, 11, 13, 14, 19, 21, 22, 25, 26, 28, 35}
	many64 := make([]int, 64)
	for _, c := range []struct {
		n          int
		sets, want []int
		e          api.Errno
	}{
		{3, []int{1, 3, 5}, []int{3, 5}, api.OK},
		{3, []int{5, 3, 1, 0, 3, 5}, []int{3, 5}, api.OK},
		{3, []int{7, 6, 5, 4, 3, 2, 1, 0}, []int{7}, api.OK},
		{6, append(many64[:63:63], 63), []int{63}, api.OK},
		{6, append(many64[:64:64], 63), nil, api.ErrArg},
		{3, nil, nil, api.ErrNone},
		{3, []int{0, 0}, nil, api.ErrNone},
		{6, many64, nil, api.ErrNone},
		{3, []int{8}, nil, api.ErrArg},
		{3, []int{7, -1}, nil, api.ErrArg},
		{3, []int{0, math.MinInt}, nil, api.ErrArg},
		{3, []int{0, math.MaxInt}, nil, api.ErrArg},
		{0, []int{0}, nil, api.ErrArg},
		{7, []int{1}, nil, api.ErrArg},
		{-1, nil, nil, api.ErrArg},
		{math.MaxInt, nil, nil, api.ErrArg},
		{math.MinInt, nil, nil, api.ErrArg},
		{6, over, nil, api.ErrLarge},
		{6, over[:10], over[:10], api.OK},
		{6, append(slices.Clone(over), 64), nil, api.ErrArg},
		{6, append(slices.Clone(over), 63), []int{63}, api.OK},
	} {
		if got, e := shells.Made(c.n, c.sets); e != c.e || !same(got, c.want) {
			t.Error(c, got, e)
		}
	}
}

// TestMadeOfFaces: the faces, in any order, lead back to the pieces.
func TestMadeOfFaces(t *testing.T) {
	eachSmall(5, func(n int, pieces []int) {
		faces := facesOf(n, pieces)
		slices.Reverse(faces)
		if got, e := shells.Made(n, faces); e != api.OK || !same(got, pieces) {
			t.Error(n, pieces, got, e)
		}
	})
}
