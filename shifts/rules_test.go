package shifts_test

import (
	"fmt"
	"math"
	"reflect"
	"slices"
	"testing"

	"girouette/api"
	"girouette/shifts"
)

// call is a function that takes a matrix; l is the list that Split takes, or the numbers that others take, and b the other matrix of Both.
type call struct {
	name string
	do   func(a, b [][]int, l []int) ([]any, api.Errno)
}

// at is an item of a list, or 0.
func at(l []int, i int) int {
	if i < len(l) {
		return l[i]
	}
	return 0
}

// calls is all functions that take a matrix.
var calls = []call{
	{"Check", func(a, _ [][]int, _ []int) ([]any, api.Errno) { return nil, shifts.Check(a) }},
	{"Trips", func(a, _ [][]int, l []int) ([]any, api.Errno) {
		x, e := shifts.Trips(a, at(l, 0))
		return []any{x}, e
	}},
	{"Rounds", func(a, _ [][]int, l []int) ([]any, api.Errno) {
		x, e := shifts.Rounds(a, at(l, 0))
		return []any{x}, e
	}},
	{"Orbits", func(a, _ [][]int, l []int) ([]any, api.Errno) {
		x, e := shifts.Orbits(a, at(l, 0))
		return []any{x}, e
	}},
	{"Fixed", func(a, _ [][]int, _ []int) ([]any, api.Errno) { x, e := shifts.Fixed(a); return []any{x}, e }},
	{"Hangs", func(a, _ [][]int, _ []int) ([]any, api.Errno) { x, e := shifts.Hangs(a); return []any{x}, e }},
	{"Beat", func(a, _ [][]int, _ []int) ([]any, api.Errno) { x, e := shifts.Beat(a); return []any{x}, e }},
	{"Mixes", func(a, _ [][]int, _ []int) ([]any, api.Errno) {
		x, ok, e := shifts.Mixes(a)
		return []any{x, ok}, e
	}},
	{"Trip", func(a, _ [][]int, l []int) ([]any, api.Errno) {
		x, ok, e := shifts.Trip(a, at(l, 0), at(l, 1), at(l, 2))
		return []any{x, ok}, e
	}},
	{"Split", func(a, _ [][]int, l []int) ([]any, api.Errno) {
		x, e := shifts.Split(a, 0, l)
		return []any{x}, e
	}},
	{"Split far away", func(a, _ [][]int, l []int) ([]any, api.Errno) {
		x, e := shifts.Split(a, at(l, 0), l)
		return []any{x}, e
	}},
	{"Merge", func(a, _ [][]int, l []int) ([]any, api.Errno) {
		x, e := shifts.Merge(a, at(l, 0), at(l, 1))
		return []any{x}, e
	}},
	{"Torsion", func(a, _ [][]int, _ []int) ([]any, api.Errno) {
		x, e := shifts.Torsion(a)
		return []any{x}, e
	}},
	{"Sign", func(a, _ [][]int, _ []int) ([]any, api.Errno) { x, e := shifts.Sign(a); return []any{x}, e }},
	{"Turned", func(a, _ [][]int, _ []int) ([]any, api.Errno) { x, e := shifts.Turned(a); return []any{x}, e }},
}

// both is Both as a call.
var both = call{"Both", func(a, b [][]int, _ []int) ([]any, api.Errno) {
	x, e := shifts.Both(a, b)
	return []any{x[0], x[1]}, e
}}

// isZero is whether a result is its zero value; an empty slice is one.
func isZero(x any) bool {
	v := reflect.ValueOf(x)
	return v.IsZero() || v.Kind() == reflect.Slice && v.Len() == 0
}

// someLists is lists that calls take, right or wrong.
func someLists() [][]int {
	return [][]int{nil, {1}, {2}, {0, 1}, {1, 0}, {1, 1}, {0, 1, 3}, {1, 0, 10}, {0, 0, 0, 1}, {1, 0, 0, 0, 0}, {0, 4, 11}, {-1, 0, 0}, {5, 5, 5}, far}
}

// TestMatrixFirst: P6.1, R1 and R2: what is no matrix comes before the other arguments.
func TestMatrixFirst(t *testing.T) {
	for _, a := range noMatrices {
		for _, f := range calls {
			for _, l := range someLists() {
				got, e := f.do(a, a, l)
				if e != api.ErrShift || slices.ContainsFunc(got, func(x any) bool { return !isZero(x) }) {
					t.Error(f.name, len(a), l, got, e)
				}
			}
		}
	}
}

// TestZeroNextToErrors: R2, matrices with other arguments that are not right, and calls that return false.
func TestZeroNextToErrors(t *testing.T) {
	for _, a := range someMatrices() {
		for _, f := range append(calls, both) {
			for _, l := range someLists() {
				got, e := f.do(a, a, l)
				if (e != api.OK || slices.Contains(got, any(false))) && slices.ContainsFunc(got, func(x any) bool { return !isZero(x) }) {
					t.Error(f.name, a, l, got, e)
				}
				if !slices.Contains([]api.Errno{api.OK, api.ErrArg, api.ErrNone, api.ErrLarge}, e) {
					t.Error(f.name, a, l, e)
				}
			}
		}
	}
}

// room is how many items behind the end of a list are filled.
const room = 6

// guarded is a copy of the list with room behind it that is filled.
func guarded(l []int, fill int) []int {
	return append(slices.Clone(l), slices.Repeat([]int{fill}, room)...)[:len(l)]
}

// guardedTable is a copy of the table with room behind it, and behind its rows, that is filled.
func guardedTable(a [][]int, fill int) [][]int {
	var rows [][]int
	for _, l := range a {
		rows = append(rows, guarded(l, fill))
	}
	for range room {
		rows = append(rows, []int{fill})
	}
	return rows[:len(a)]
}

// uncovered is all of a table, with what is behind its end and behind the ends of its rows.
func uncovered(a [][]int) [][]int {
	var rows [][]int
	for _, l := range a[:len(a)+room] {
		rows = append(rows, l[:cap(l)])
	}
	return rows
}

// spoil overwrites all that is in results, row after row, and tells whether a row is in memory that another one has, too.
func spoil(results []any) bool {
	shared := false
	number := -100
	overwrite := func(rows [][]int) {
		for _, l := range rows {
			for i := range l[:cap(l)] {
				shared = shared || l[:cap(l)][i] <= -100
				number--
				l[:cap(l)][i] = number
			}
		}
	}
	for _, x := range results {
		switch l := x.(type) {
		case []int:
			overwrite([][]int{l})
		case [][]int:
			overwrite(l)
			clear(l[:cap(l)])
		case []int64:
			for i := range l[:cap(l)] {
				l[:cap(l)][i] = -99
			}
		}
	}
	return shared
}

// TestMemory: R4 and R7.
func TestMemory(t *testing.T) {
	lists := [][]int{{1}, {0, 1}, {1, 0, 0}, {0, 1, 3}, {0, 0, 0, 1}, {0, 0, 0, 0, 1}, {3}, {7, 7}}
	for i, a := range someMatrices() {
		if i%5 > 0 && len(a) > 1 {
			continue
		}
		for _, l := range lists {
			for _, fill := range []int{-77, 0, 1} {
				for _, f := range append(calls, both) {
					one, two, list := guardedTable(a, fill), guardedTable(a, fill), guarded(l, fill)
					got, e := f.do(one, two, list)
					said := fmt.Sprint(got, e)
					if spoil(got) {
						t.Error(f.name, a, l, said)
					}
					want := uncovered(guardedTable(a, fill))
					if !same(uncovered(one), want) || !same(uncovered(two), want) || !slices.Equal(list[:len(l)+room], guarded(l, fill)[:len(l)+room]) {
						t.Error(f.name, a, l, one, two, list)
					}
					again, e := f.do(one, two, list)
					if fmt.Sprint(again, e) != said {
						t.Error(f.name, a, l, said, again, e)
					}
				}
			}
		}
	}
}

// TestRowsThatAreOne: R4, arguments whose rows are the same memory, and results of them whose rows are not.
func TestRowsThatAreOne(t *testing.T) {
	row := []int{2, 2}
	a := [][]int{row, row}
	for _, f := range append(calls, both) {
		got, e := f.do(a, a, []int{1, 1})
		if spoil(got) || !slices.Equal(row, []int{2, 2}) {
			t.Error(f.name, got, e, row)
		}
	}
	if got, e := shifts.Turned(a); !same(got, a) || e != api.OK {
		t.Error(got, e)
	}
	if got, e := shifts.Both(a, a); !same(got[0], [][]int{{8, 8}, {8, 8}}) || !same(got[1], got[0]) || e != api.OK {
		t.Error(got, e)
	}
}

// TestEveryCallEnds: P1, with numbers and lists that make no sense.
func TestEveryCallEnds(t *testing.T) {
	tables := append([][][]int{{{0}}, {{9}}, golden, all(5, 9), ring(5)}, noMatrices...)
	extremes := []int{math.MinInt, -1, 0, 1, 4, 5, 10, 11, math.MaxInt}
	for _, a := range tables {
		for _, b := range tables {
			shifts.Both(a, b)
		}
		for _, one := range extremes {
			for _, other := range extremes {
				for _, f := range calls {
					f.do(a, nil, []int{one, other, one})
					f.do(a, nil, []int{one, one, other})
					f.do(a, nil, []int{one, other})
				}
				shifts.Split(a, one, slices.Repeat([]int{other}, len(a)))
				shifts.Split(a, one, make([]int, 100000))
			}
		}
	}
}
