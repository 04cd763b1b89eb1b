package cycles_test

import (
	"fmt"
	"math"
	"reflect"
	"slices"
	"testing"

	"girouette/api"
	"girouette/cycles"
)

// call is a function that takes a cycle; l is the intervals, and x the number, that some of them take.
type call struct {
	name string
	do   func(p, l []int, x [2]int64) ([]any, api.Errno)
}

// at is an item of a list, or 0.
func at(l []int, i int) int {
	if i < len(l) {
		return l[i]
	}
	return 0
}

// calls is all functions that take a cycle.
var calls = []call{
	{"Check", func(p, _ []int, _ [2]int64) ([]any, api.Errno) { return nil, cycles.Check(p) }},
	{"Covers", func(p, l []int, _ [2]int64) ([]any, api.Errno) {
		ok, e := cycles.Covers(p, at(l, 0), at(l, 1))
		return []any{ok}, e
	}},
	{"Loops", func(p, l []int, _ [2]int64) ([]any, api.Errno) {
		many, e := cycles.Loops(p, at(l, 0))
		return []any{many}, e
	}},
	{"Loop", func(p, l []int, _ [2]int64) ([]any, api.Errno) {
		loop, ok, e := cycles.Loop(p, at(l, 0))
		return []any{loop, ok}, e
	}},
	{"Loop of 12", func(p, _ []int, _ [2]int64) ([]any, api.Errno) {
		loop, ok, e := cycles.Loop(p, 12)
		return []any{loop, ok}, e
	}},
	{"IsLoop", func(p, l []int, _ [2]int64) ([]any, api.Errno) {
		ok, e := cycles.IsLoop(p, l)
		return []any{ok}, e
	}},
	{"Periods", func(p, _ []int, _ [2]int64) ([]any, api.Errno) {
		periods, e := cycles.Periods(p)
		return []any{periods}, e
	}},
	{"Value", func(p, _ []int, x [2]int64) ([]any, api.Errno) {
		y, e := cycles.Value(p, x)
		return []any{y}, e
	}},
	{"Follow", func(p, l []int, _ [2]int64) ([]any, api.Errno) {
		y, e := cycles.Follow(p, l)
		return []any{y}, e
	}},
	{"Period", func(p, _ []int, x [2]int64) ([]any, api.Errno) {
		k, ok, e := cycles.Period(p, x)
		return []any{k, ok}, e
	}},
	{"Mirror", func(p, _ []int, _ [2]int64) ([]any, api.Errno) {
		q, e := cycles.Mirror(p)
		return []any{q}, e
	}},
}

// isZero is whether a result is its zero value; an empty slice is one.
func isZero(x any) bool {
	v := reflect.ValueOf(x)
	return v.IsZero() || v.Kind() == reflect.Slice && v.Len() == 0
}

// TestCycleFirst: P5.1 and R1, R2 and R9: what is no cycle comes before the other arguments.
func TestCycleFirst(t *testing.T) {
	for _, p := range noCycles {
		for _, f := range calls {
			for _, l := range [][]int{nil, {0}, {1, 0}, {1}, {-1}, far} {
				for _, x := range [][2]int64{{0, 1}, {1, 2}, {2, 4}, {math.MaxInt64, math.MinInt64}} {
					got, e := f.do(p, l, x)
					if e != api.ErrCycle || slices.ContainsFunc(got, func(x any) bool { return !isZero(x) }) {
						t.Error(f.name, p, l, x, got, e)
					}
				}
			}
		}
	}
}

// TestZeroNextToErrors: R2, cycles with other arguments that are not right.
func TestZeroNextToErrors(t *testing.T) {
	for _, p := range someCycles() {
		for _, f := range calls {
			for _, l := range [][]int{nil, {-1, 0}, {0, 9}, {13, 13}, far} {
				for _, x := range [][2]int64{{2, 4}, {-1, 2}, {math.MaxInt64, 1}} {
					got, e := f.do(p, l, x)
					if e != api.OK && (e != api.ErrArg || slices.ContainsFunc(got, func(x any) bool { return !isZero(x) })) {
						t.Error(f.name, p, l, x, got, e)
					}
				}
			}
		}
	}
}

// room is how many items behind the end of a list are filled.
const room = 12

// guarded is a copy of the list with room behind it that is filled.
func guarded(l []int, fill int) []int {
	return append(slices.Clone(l), slices.Repeat([]int{fill}, room)...)[:len(l)]
}

// spoil overwrites all that is in a result.
func spoil(results []any) {
	for _, x := range results {
		switch l := x.(type) {
		case []int:
			for i := range l[:cap(l)] {
				l[:cap(l)][i] = -99
			}
		case []string:
			for i := range l[:cap(l)] {
				l[:cap(l)][i] = "?"
			}
		}
	}
}

// TestMemory: R4 and R7.
func TestMemory(t *testing.T) {
	for _, p := range someCycles() {
		for _, l := range [][]int{nil, {1, 0}, {5, 3}, {0}, {1, 1}, {2, 0, 2, 0}} {
			for _, fill := range []int{-77, 0, 1, 8} {
				for _, f := range calls {
					one, other := guarded(p, fill), guarded(l, fill)
					got, e := f.do(one, other, [2]int64{2, 3})
					said := fmt.Sprint(got, e)
					spoil(got)
					if !slices.Equal(one[:len(p)+room], guarded(p, fill)[:len(p)+room]) || !slices.Equal(other[:len(l)+room], guarded(l, fill)[:len(l)+room]) {
						t.Error(f.name, p, l, one, other)
					}
					again, e := f.do(one, other, [2]int64{2, 3})
					if fmt.Sprint(again, e) != said {
						t.Error(f.name, p, l, said, again, e)
					}
				}
			}
		}
	}
}

// TestMemoryOfOthers: R4 and R7, the functions that take no cycle.
func TestMemoryOfOthers(t *testing.T) {
	for name, do := range map[string]func() ([]any, api.Errno){
		"Stefan":   func() ([]any, api.Errno) { p, e := cycles.Stefan(7); return []any{p}, e },
		"Greatest": func() ([]any, api.Errno) { l, e := cycles.Greatest(6); return []any{l}, e },
		"Of":       func() ([]any, api.Errno) { p, e := cycles.Of("RLLR"); return []any{p}, e },
	} {
		got, e := do()
		said := fmt.Sprint(got, e)
		spoil(got)
		again, e := do()
		if fmt.Sprint(again, e) != said || e != api.OK {
			t.Error(name, said, again, e)
		}
	}
}

// TestEveryCallEnds: P1, with lists that are long or make no sense.
func TestEveryCallEnds(t *testing.T) {
	lists := append([][]int{{1, 0}, {1, 2, 0}, {1, 2, 3, 4, 5, 6, 7, 0}, {7, 6, 5, 4, 3, 2, 1, 0}, far}, noCycles...)
	numbers := []int64{math.MinInt64, math.MinInt64 + 1, -1, 0, 1, 2, 3, 999999, 1000000, 1000001, math.MaxInt64 - 1, math.MaxInt64}
	for _, p := range lists {
		for _, l := range append([][]int{{0, 0}, {6, 6}, {12, 12}, slices.Repeat([]int{6}, 12), slices.Repeat([]int{0}, 6)}, lists...) {
			for _, f := range calls {
				f.do(p, l, [2]int64{0, 1})
			}
		}
		for _, over := range numbers {
			for _, under := range numbers {
				for _, f := range calls {
					f.do(p, nil, [2]int64{over, under})
				}
			}
		}
	}
}

// TestEveryWordEnds: P1, with strings that make no sense.
func TestEveryWordEnds(t *testing.T) {
	all := slices.Concat(noWords, noEnds)
	for _, a := range all {
		for _, b := range all {
			cycles.Lower(a, b)
		}
		cycles.IsGreatest(a)
		cycles.Of(a)
	}
}
