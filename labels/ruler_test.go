package labels_test

import (
	"math"
	"slices"
	"sync"
	"testing"

	"girouette/api"
	"girouette/labels"
)

// measures is whether marks are a ruler by the definition.
func measures(marks []int) bool {
	if len(marks) < 2 || len(marks) > 7 || marks[0] != 0 || marks[len(marks)-1] > 25 || !slices.IsSorted(marks) {
		return false
	}
	seen := map[int]bool{0: true}
	for i, mark := range marks {
		for _, before := range marks[:i] {
			if seen[mark-before] {
				return false
			}
			seen[mark-before] = true
		}
	}
	return true
}

// rulers is all rulers, least first.
var rulers = sync.OnceValue(func() [][]int {
	var all [][]int
	var grow func(marks []int)
	grow = func(marks []int) {
		if len(marks) > 1 {
			if !measures(marks) {
				return
			}
			all = append(all, slices.Clone(marks))
		}
		for mark := marks[len(marks)-1] + 1; mark <= 25 && len(marks) < 7; mark++ {
			grow(append(marks, mark))
		}
	}
	grow(make([]int, 1, 7))
	return all
})

func TestIsRuler(t *testing.T) {
	// All lists of up to four numbers from -1 to 6.
	var try func(marks []int)
	try = func(marks []int) {
		if got, e := labels.IsRuler(marks); e != api.OK || got != measures(marks) {
			t.Error(marks, got, e)
		}
		for mark := -1; mark <= 6 && len(marks) < 4; mark++ {
			try(append(marks, mark))
		}
	}
	try(make([]int, 0, 4))
	for _, marks := range rulers() {
		if got, e := labels.IsRuler(marks); e != api.OK || !got {
			t.Error(marks, got, e)
		}
	}
	for _, c := range []struct {
		marks []int
		want  bool
	}{
		{nil, false},
		{[]int{0}, false},
		{[]int{0, 25}, true},
		{[]int{0, 26}, false},
		{[]int{0, 1}, true},
		{[]int{1, 2}, false},
		{[]int{-1, 0}, false},
		{[]int{0, 1, 2}, false},
		{[]int{0, 1, 3, 7}, true},
		{[]int{0, 3, 1}, false},
		{[]int{0, 100, 5}, false},
		{[]int{0, math.MaxInt, 5}, false},
		{[]int{0, math.MinInt}, false},
		{[]int{math.MinInt, 0, math.MaxInt}, false},
		{[]int{0, 1, 1}, false},
		{[]int{0, 1, 4, 10, 18, 23, 25}, true},
		{[]int{0, 1, 4, 10, 18, 23, 26}, false},
		{[]int{0, 1, 4, 9, 15, 22, 32, 34}, false},
		{make([]int, 100000), false},
	} {
		if got, e := labels.IsRuler(c.marks); e != api.OK || got != c.want {
			t.Error(c, got, e)
		}
	}
}

func TestRuler(t *testing.T) {
	var best [8][]int
	for _, marks := range rulers() {
		many := len(marks)
		if best[many] == nil || marks[many-1] < best[many][many-1] {
			best[many] = marks
		}
	}
	for many := 2; many <= 7; many++ {
		if got, e := labels.Ruler(many); e != api.OK || !same(got, best[many]) {
			t.Error(many, got, e, best[many])
		}
	}
	for _, want := range [][]int{{0, 1}, {0, 1, 3}, {0, 1, 4, 6}, {0, 1, 4, 9, 11}, {0, 1, 4, 10, 12, 17}, {0, 1, 4, 10, 18, 23, 25}} {
		if got, e := labels.Ruler(len(want)); e != api.OK || !same(got, want) {
			t.Error(want, got, e)
		}
	}
	for _, many := range []int{math.MinInt, -1, 0, 1, 8, math.MaxInt} {
		if got, e := labels.Ruler(many); e != api.ErrArg || len(got) > 0 {
			t.Error(many, got, e)
		}
	}
}

// TestExtendAll: each ruler that begins with some marks is the first one of its length, or there is one before it.
func TestExtendAll(t *testing.T) {
	type start struct {
		marks [7]int
		known int
		many  int
	}
	first := map[start][]int{}
	for _, marks := range rulers() {
		for known := 2; known <= len(marks); known++ {
			s := start{known: known, many: len(marks)}
			copy(s.marks[:], marks[:known])
			if first[s] == nil {
				first[s] = marks
			}
		}
	}
	for _, marks := range rulers() {
		for many := 2; many <= 7; many++ {
			s := start{known: len(marks), many: many}
			copy(s.marks[:], marks)
			got, ok, e := labels.Extend(marks, many)
			if e != api.OK || ok != (first[s] != nil) || !same(got, first[s]) {
				t.Error(marks, many, got, ok, e, first[s])
			}
		}
	}
}

func TestExtend(t *testing.T) {
	for _, c := range []struct {
		marks []int
		many  int
		want  []int
		e     api.Errno
	}{
		{[]int{0, 1, 3}, 4, []int{0, 1, 3, 7}, api.OK},
		{[]int{0, 1, 3}, 3, []int{0, 1, 3}, api.OK},
		{[]int{0, 1, 3}, 2, nil, api.OK},
		{[]int{0, 24, 25}, 7, nil, api.OK},
		{[]int{0, 25}, 3, nil, api.OK},
		{[]int{1, 2}, 3, nil, api.ErrArg},
		{[]int{0}, 3, nil, api.ErrArg},
		{nil, 3, nil, api.ErrArg},
		{[]int{0, 1, 2}, 4, nil, api.ErrArg},
		{[]int{0, 1, 3}, 1, nil, api.ErrArg},
		{[]int{0, 1, 3}, 8, nil, api.ErrArg},
		{[]int{0, 1}, math.MinInt, nil, api.ErrArg},
		{[]int{0, 1}, math.MaxInt, nil, api.ErrArg},
		{[]int{0, math.MaxInt}, 3, nil, api.ErrArg},
	} {
		if got, ok, e := labels.Extend(c.marks, c.many); e != c.e || ok != (c.want != nil) || !same(got, c.want) {
			t.Error(c, got, ok, e)
		}
	}
}

// TestGolomb: what P2.9 says of rulers.
func TestGolomb(t *testing.T) {
	for many := 2; many <= 7; many++ {
		got, _ := labels.Ruler(many)
		all := many * (many - 1) / 2
		if last := got[many-1]; last < all || (last == all) != (many <= 4) {
			t.Error(many, got)
		}
	}
}
