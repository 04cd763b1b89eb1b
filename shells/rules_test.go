package shells_test

import (
	"fmt"
	"math"
	"reflect"
	"slices"
	"testing"

	"girouette/api"
	"girouette/shells"
)

// call is a function that takes a complex; its other arguments are good for the ring if good is true.
type call struct {
	name string
	do   func(n int, pieces []int, good bool) ([]any, api.Errno)
}

func list(pieces []int, good bool) []int {
	if good {
		return []int{0, 1, 2}
	}
	return []int{math.MaxInt, -1}
}

var calls = []call{
	{"Check", func(n int, p []int, _ bool) ([]any, api.Errno) { return nil, shells.Check(n, p) }},
	{"Faces", func(n int, p []int, _ bool) ([]any, api.Errno) { l, e := shells.Faces(n, p); return []any{l}, e }},
	{"Counts", func(n int, p []int, _ bool) ([]any, api.Errno) { l, e := shells.Counts(n, p); return []any{l}, e }},
	{"Hs", func(n int, p []int, _ bool) ([]any, api.Errno) { l, e := shells.Hs(n, p); return []any{l}, e }},
	{"Euler", func(n int, p []int, _ bool) ([]any, api.Errno) { x, e := shells.Euler(n, p); return []any{x}, e }},
	{"Shell", func(n int, p []int, _ bool) ([]any, api.Errno) {
		l, ok, e := shells.Shell(n, p)
		return []any{l, ok}, e
	}},
	{"IsShelling", func(n int, p []int, good bool) ([]any, api.Errno) {
		ok, e := shells.IsShelling(n, p, list(p, good))
		return []any{ok}, e
	}},
	{"News", func(n int, p []int, good bool) ([]any, api.Errno) {
		l, e := shells.News(n, p, list(p, good))
		return []any{l}, e
	}},
	{"Collapse", func(n int, p []int, _ bool) ([]any, api.Errno) {
		l, ok, e := shells.Collapse(n, p)
		return []any{l, ok}, e
	}},
	{"Left", func(n int, p []int, good bool) ([]any, api.Errno) {
		var c [][2]int
		if !good {
			c = [][2]int{{math.MinInt, math.MaxInt}}
		}
		l, ok, e := shells.Left(n, p, c)
		return []any{l, ok}, e
	}},
	{"Hollows", func(n int, p []int, _ bool) ([]any, api.Errno) { l, e := shells.Hollows(n, p); return []any{l}, e }},
	{"Link", func(n int, p []int, good bool) ([]any, api.Errno) {
		face := 0
		if !good {
			face = math.MinInt
		}
		l, e := shells.Link(n, p, face)
		return []any{l}, e
	}},
	{"Dual", func(n int, p []int, _ bool) ([]any, api.Errno) { l, e := shells.Dual(n, p); return []any{l}, e }},
}

// isZero is whether a result is its zero value; an empty slice is one.
func isZero(x any) bool {
	v := reflect.ValueOf(x)
	return v.IsZero() || v.Kind() == reflect.Slice && v.Len() == 0
}

// TestComplexFirst: R1 and R2, whatever the other arguments are.
func TestComplexFirst(t *testing.T) {
	for _, c := range []struct {
		n      int
		pieces []int
		want   api.Errno
	}{
		{0, nil, api.ErrArg},
		{7, ring, api.ErrArg},
		{math.MinInt, []int{0}, api.ErrArg},
		{math.MaxInt, []int{math.MaxInt}, api.ErrArg},
		{3, nil, api.ErrShell},
		{3, []int{0, 1, 2}, api.ErrShell},
		{3, []int{6, 5, 3}, api.ErrShell},
		{3, []int{3, 5, 7}, api.ErrShell},
		{3, []int{3, 5, math.MinInt}, api.ErrShell},
		{2, ring, api.ErrShell},
		{6, make([]int, 1000), api.ErrShell},
	} {
		for _, f := range calls {
			for _, good := range []bool{true, false} {
				got, e := f.do(c.n, c.pieces, good)
				if e != c.want {
					t.Error(f.name, c, good, e)
				}
				for _, x := range got {
					if !isZero(x) {
						t.Error(f.name, c, good, got)
					}
				}
			}
		}
	}
}

// guarded is a copy of the list with room behind it that is filled.
func guarded(l []int) []int {
	room := append(slices.Clone(l), 77, 77, 77, 77, 77, 77, 77, 77, 77, 77, 77, 77)
	return room[:len(l)]
}

func unchanged(now, was []int) bool {
	return same(now, was) && same(now[:len(now)+12][len(now):], guarded(nil)[:12])
}

// spoil writes into all of a result, and behind it.
func spoil(x any) {
	switch l := x.(type) {
	case []int:
		for i := range l[:cap(l)] {
			l[:cap(l)][i] = -99
		}
	case [][2]int:
		for i := range l[:cap(l)] {
			l[:cap(l)][i] = [2]int{-99, -99}
		}
	}
}

// TestMemory: R4 and R7.
func TestMemory(t *testing.T) {
	for _, c := range []struct {
		n      int
		pieces []int
	}{{3, ring}, {3, []int{7}}, {4, two}, {6, plane}, {6, []int{63}}} {
		for _, f := range calls {
			arg := guarded(c.pieces)
			got, _ := f.do(c.n, arg, true)
			said := fmt.Sprint(got)
			for _, x := range got {
				spoil(x)
			}
			if !unchanged(arg, c.pieces) {
				t.Error(f.name, c, arg)
			}
			if again, _ := f.do(c.n, arg, true); fmt.Sprint(again) != said {
				t.Error(f.name, c, said, again)
			}
		}
	}
}

func TestMemoryOfOthers(t *testing.T) {
	order, sets := guarded([]int{0, 1, 2}), guarded([]int{6, 3, 5, 1})
	news, _ := shells.News(3, ring, order)
	spoil(news)
	shells.IsShelling(3, ring, order)
	made, _ := shells.Made(3, sets)
	spoil(made)
	if !unchanged(order, []int{0, 1, 2}) || !unchanged(sets, []int{6, 3, 5, 1}) {
		t.Error(order, sets)
	}
	pairs := [][2]int{{3, 7}, {2, 6}, {9, 9}}[:2]
	left, ok, _ := shells.Left(3, []int{7}, pairs)
	spoil(left)
	if !ok || pairs[0] != [2]int{3, 7} || pairs[1] != [2]int{2, 6} || pairs[:3][2] != [2]int{9, 9} {
		t.Error(pairs, ok)
	}
	first, _ := shells.Moment(5, 3)
	spoil(first)
	if second, _ := shells.Moment(5, 3); len(second) != 6 || second[0] < 0 {
		t.Error(second)
	}
}

// TestEveryCallEnds: P1, with lists that are long or make no sense.
func TestEveryCallEnds(t *testing.T) {
	long := make([]int, 100000)
	pairs := make([][2]int, 100000)
	for _, n := range []int{math.MinInt, -1, 0, 1, 3, 6, 7, 64, math.MaxInt} {
		for _, pieces := range [][]int{nil, {}, {0}, {1}, ring, plane, {math.MinInt}, {math.MaxInt}, {-1}, long} {
			for _, f := range calls {
				f.do(n, pieces, false)
			}
			shells.IsShelling(n, pieces, long)
			shells.News(n, pieces, long)
			shells.Left(n, pieces, pairs)
			shells.Link(n, pieces, n)
			shells.Made(n, pieces)
			shells.Moment(n, len(pieces))
		}
	}
}
