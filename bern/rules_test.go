package bern_test

import (
	"fmt"
	"math"
	"reflect"
	"slices"
	"testing"

	"girouette/api"
	"girouette/bern"
)

// args is arguments of any call.
type args struct {
	p       []int
	corners [][2]int64
	pieces  [][2]int
	piece   [2]int
	x       [2]int64
}

// call is a function, and whether it takes a polynomial or else corners.
type call struct {
	name string
	ofP  bool
	do   func(a args) ([]any, api.Errno)
}

// calls is all functions.
var calls = []call{
	{"Check", true, func(a args) ([]any, api.Errno) { return nil, bern.Check(a.p) }},
	{"Value", true, func(a args) ([]any, api.Errno) {
		x, e := bern.Value(a.p, a.x)
		return []any{x}, e
	}},
	{"Corners", true, func(a args) ([]any, api.Errno) {
		x, e := bern.Corners(a.p, a.piece)
		return []any{x}, e
	}},
	{"Raise", false, func(a args) ([]any, api.Errno) {
		x, e := bern.Raise(a.corners)
		return []any{x}, e
	}},
	{"Halves", false, func(a args) ([]any, api.Errno) {
		x, e := bern.Halves(a.corners)
		return []any{x[0], x[1]}, e
	}},
	{"At", false, func(a args) ([]any, api.Errno) {
		x, e := bern.At(a.corners, a.x)
		return []any{x}, e
	}},
	{"Changes", false, func(a args) ([]any, api.Errno) {
		x, e := bern.Changes(a.corners)
		return []any{x}, e
	}},
	{"Positive", true, func(a args) ([]any, api.Errno) {
		ok, x, e := bern.Positive(a.p)
		return []any{ok, x}, e
	}},
	{"IsProof", true, func(a args) ([]any, api.Errno) {
		ok, e := bern.IsProof(a.p, a.pieces)
		return []any{ok}, e
	}},
	{"Low", true, func(a args) ([]any, api.Errno) {
		x, ok, e := bern.Low(a.p)
		return []any{x, ok}, e
	}},
	{"IsPlain", true, func(a args) ([]any, api.Errno) {
		ok, e := bern.IsPlain(a.p)
		return []any{ok}, e
	}},
	{"Roots", true, func(a args) ([]any, api.Errno) {
		x, e := bern.Roots(a.p)
		return []any{x}, e
	}},
	{"Count", true, func(a args) ([]any, api.Errno) {
		x, e := bern.Count(a.p)
		return []any{x}, e
	}},
	{"Mirror", true, func(a args) ([]any, api.Errno) {
		x, e := bern.Mirror(a.p)
		return []any{x}, e
	}},
	{"Slope", true, func(a args) ([]any, api.Errno) {
		x, e := bern.Slope(a.p)
		return []any{x}, e
	}},
}

// isZero is whether a result is its zero value; an empty slice is one.
func isZero(x any) bool {
	v := reflect.ValueOf(x)
	return v.IsZero() || v.Kind() == reflect.Slice && v.Len() == 0
}

// areZero is whether all results are their zero values.
func areZero(results []any) bool {
	return !slices.ContainsFunc(results, func(x any) bool { return !isZero(x) })
}

// someArgs is arguments with each of the polynomials, the other ones being right or wrong.
func someArgs(polynomials [][]int) []args {
	var list []args
	corners := [][][2]int64{nil, {{1, 1}}, {{1, 2}, {-1, 3}}, {{1, 7}}, {{2, 4}, {1, 1}}, slices.Repeat([][2]int64{{5, 1}}, 7), slices.Repeat([][2]int64{{5, 1}}, 8), {{math.MinInt64, math.MaxInt64}}}
	pieces := [][][2]int{nil, {{0, 0}}, {{1, 0}, {1, 1}}, {{1, 1}, {1, 0}}, {{7, 0}}, {{-1, 0}, {0, 0}}, {{math.MaxInt, math.MinInt}}}
	one := [][2]int{{0, 0}, {6, 63}, {6, 64}, {3, 5}, {7, 0}, {-1, 0}, {0, -1}, {math.MinInt, math.MinInt}, {math.MaxInt, math.MaxInt}}
	x := [][2]int64{{0, 1}, {1, 2}, {2, 4}, {1, 17}, {1, 65}, {3, 2}, {0, 0}, {-1, -1}, {math.MinInt64, -1}, {math.MaxInt64, math.MinInt64}}
	for i, p := range polynomials {
		for k := range 12 {
			list = append(list, args{p, corners[(i+k)%len(corners)], pieces[(i+2*k)%len(pieces)], one[(i+k)%len(one)], x[(i+3*k)%len(x)]})
		}
	}
	return list
}

// TestPolynomialFirst: P8.1, R1 and R2: what is no polynomial comes before the other arguments.
func TestPolynomialFirst(t *testing.T) {
	for _, a := range someArgs(noPolynomials) {
		for _, f := range calls {
			if got, e := f.do(a); f.ofP && (e != api.ErrBern || !areZero(got)) {
				t.Error(f.name, len(a.p), a.piece, a.x, got, e)
			}
		}
	}
}

// TestZeroNextToErrors: R2, polynomials with other arguments that are not right, and calls that return false.
func TestZeroNextToErrors(t *testing.T) {
	for _, a := range someArgs(somePolynomials(4)) {
		for _, f := range calls {
			got, e := f.do(a)
			if (e != api.OK || slices.Contains(got, any(false))) && !areZero(got) {
				t.Error(f.name, a, got, e)
			}
			if !slices.Contains([]api.Errno{api.OK, api.ErrArg, api.ErrNone, api.ErrLarge}, e) {
				t.Error(f.name, a, e)
			}
		}
	}
}

// room is how many items behind the end of a list are filled.
const room = 9

// guarded is a copy of a list with room behind it that is filled.
func guarded[T any](list []T, fill T) []T {
	return append(slices.Clone(list), slices.Repeat([]T{fill}, room)...)[:len(list)]
}

// guardedArgs is arguments with room behind all lists.
func guardedArgs(a args, fill int) args {
	return args{guarded(a.p, fill), guarded(a.corners, [2]int64{int64(fill), 1}), guarded(a.pieces, [2]int{fill, fill}), a.piece, a.x}
}

// isAsFilled is whether arguments and the room behind them are what they were.
func isAsFilled(a, want args) bool {
	return slices.Equal(a.p[:len(a.p)+room], want.p[:len(want.p)+room]) && slices.Equal(a.corners[:len(a.corners)+room], want.corners[:len(want.corners)+room]) && slices.Equal(a.pieces[:len(a.pieces)+room], want.pieces[:len(want.pieces)+room])
}

// spoil overwrites all that is in a list and behind it.
func spoil[T any](list []T, with T) {
	list = list[:cap(list)]
	for i := range list {
		list[i] = with
	}
}

// spoilResults overwrites all that is in results; the last one first, so that what they share is seen.
func spoilResults(results []any) {
	for _, x := range slices.Backward(results) {
		switch list := x.(type) {
		case []int:
			spoil(list, -99)
		case [][2]int:
			spoil(list, [2]int{-99, -99})
		case [][2]int64:
			spoil(list, [2]int64{-99, -99})
		}
	}
}

// TestMemory: R4 and R7.
func TestMemory(t *testing.T) {
	for _, a := range someArgs(somePolynomials(10)) {
		for _, fill := range []int{-77, 0, 1} {
			for _, f := range calls {
				one := guardedArgs(a, fill)
				got, e := f.do(one)
				said := fmt.Sprint(got, e)
				spoilResults(got)
				if !isAsFilled(one, guardedArgs(a, fill)) {
					t.Error(f.name, a, one)
				}
				again, e := f.do(one)
				if fmt.Sprint(again, e) != said {
					t.Error(f.name, a, said, again, e)
				}
			}
		}
	}
}

// TestHalvesAreApart: R4, the two lists of Halves, also of one corner.
func TestHalvesAreApart(t *testing.T) {
	for _, corners := range someCorners() {
		halves, e := bern.Halves(corners)
		right := slices.Clone(halves[1])
		spoil(halves[0], [2]int64{-99, -99})
		if e != api.OK || !slices.Equal(halves[1], right) {
			t.Error(corners, halves, e)
		}
		halves, e = bern.Halves(corners)
		left := slices.Clone(halves[0])
		spoil(halves[1], [2]int64{-99, -99})
		if e != api.OK || !slices.Equal(halves[0], left) {
			t.Error(corners, halves, e)
		}
	}
}

// TestAgain: R7, the results of calls that are done again and again.
func TestAgain(t *testing.T) {
	for _, a := range someArgs(somePolynomials(10)) {
		for _, f := range calls {
			first, e := f.do(a)
			for range 3 {
				again, other := f.do(a)
				if e != other || !reflect.DeepEqual(first, again) {
					t.Error(f.name, a, first, e, again, other)
				}
			}
		}
	}
}

// TestEveryCallEnds: P1, with lists and numbers that make no sense.
func TestEveryCallEnds(t *testing.T) {
	extremes := []int{math.MinInt, math.MinInt + 1, -1, 0, 1, 2, 6, 7, 63, 64, 65, 100, 101, 240, 1000000, math.MaxInt}
	for _, one := range extremes {
		for _, other := range extremes {
			for _, size := range []int{0, 1, 2, 6, 7, 8, 1000} {
				pairs := slices.Repeat([][2]int64{{int64(one), int64(other)}}, size)
				pieces := slices.Repeat([][2]int{{one, other}}, size)
				a := args{slices.Repeat([]int{one}, size), pairs, pieces, [2]int{one, other}, [2]int64{int64(one), int64(other)}}
				b := a
				b.p = []int{1, -6, 9}
				for _, f := range calls {
					f.do(a)
					f.do(b)
				}
			}
		}
	}
}
