package steady_test

import (
	"fmt"
	"math"
	"reflect"
	"slices"
	"testing"

	"girouette/api"
	"girouette/steady"
)

// args is arguments of any call.
type args struct {
	a, b []int
}

// kind is what a call takes.
type kind int

const (
	one kind = iota
	two
	parts
	limits
)

// call is a function.
type call struct {
	name  string
	takes kind
	do    func(x args) ([]any, api.Errno)
}

// calls is all functions.
var calls = []call{
	{"Check", one, func(x args) ([]any, api.Errno) { return nil, steady.Check(x.a) }},
	{"IsSteady", one, func(x args) ([]any, api.Errno) {
		ok, e := steady.IsSteady(x.a)
		return []any{ok}, e
	}},
	{"Table", one, func(x args) ([]any, api.Errno) {
		rows, e := steady.Table(x.a)
		return []any{rows}, e
	}},
	{"Right", one, func(x args) ([]any, api.Errno) {
		many, e := steady.Right(x.a)
		return []any{many}, e
	}},
	{"Minors", one, func(x args) ([]any, api.Errno) {
		minors, e := steady.Minors(x.a)
		return []any{minors}, e
	}},
	{"Halves", one, func(x args) ([]any, api.Errno) {
		halves, e := steady.Halves(x.a)
		return []any{halves[0], halves[1]}, e
	}},
	{"Weave", parts, func(x args) ([]any, api.Errno) {
		ok, e := steady.Weave(x.a, x.b)
		return []any{ok}, e
	}},
	{"Turned", one, func(x args) ([]any, api.Errno) {
		turned, e := steady.Turned(x.a)
		return []any{turned}, e
	}},
	{"Times", two, func(x args) ([]any, api.Errno) {
		product, e := steady.Times(x.a, x.b)
		return []any{product}, e
	}},
	{"IsInner", one, func(x args) ([]any, api.Errno) {
		ok, e := steady.IsInner(x.a)
		return []any{ok}, e
	}},
	{"Disc", one, func(x args) ([]any, api.Errno) {
		disc, e := steady.Disc(x.a)
		return []any{disc}, e
	}},
	{"CheckBounds", limits, func(x args) ([]any, api.Errno) { return nil, steady.CheckBounds(x.a, x.b) }},
	{"Corners", limits, func(x args) ([]any, api.Errno) {
		corners, e := steady.Corners(x.a, x.b)
		return []any{corners[0], corners[1], corners[2], corners[3]}, e
	}},
	{"AllSteady", limits, func(x args) ([]any, api.Errno) {
		ok, e := steady.AllSteady(x.a, x.b)
		return []any{ok}, e
	}},
	{"Fault", limits, func(x args) ([]any, api.Errno) {
		fault, ok, e := steady.Fault(x.a, x.b)
		return []any{fault, ok}, e
	}},
}

// isZero is whether a result is its zero value; an empty slice is one.
func isZero(x any) bool {
	v := reflect.ValueOf(x)
	return v.IsZero() || v.Kind() == reflect.Slice && v.Len() == 0
}

// areZero is whether all results are their zero values.
func areZero(results []any) bool {
	return !slices.ContainsFunc(results, func(x any) bool { return !isZero(x) })
}

// someArgs is polynomials, bounds, halves, and lists that are none of these, in pairs.
func someArgs(step int) []args {
	var list []args
	some := somePolynomials(step)
	for i, a := range some {
		b := some[(i*7+5)%len(some)]
		list = append(list, args{a, b}, args{a, noPolynomials[i%len(noPolynomials)]}, args{noPolynomials[i%len(noPolynomials)], b}, args{a, a})
		halves, _ := steady.Halves(a)
		list = append(list, args{halves[0], halves[1]}, args{a[:1], b[:1]})
	}
	for _, b := range slices.Concat(someBoxes(step), noLists, noBounds) {
		list = append(list, args{b.lo, b.hi})
	}
	return list
}

// TestErrorsFirst: P9.1, P9.5, R1 and R2: what is no polynomial, and what are no bounds.
func TestErrorsFirst(t *testing.T) {
	for _, no := range noPolynomials {
		for _, f := range calls {
			if got, e := f.do(args{no, []int{1}}); (f.takes == one || f.takes == two) && (e != api.ErrSteady || !areZero(got)) {
				t.Error(f.name, len(no), got, e)
			}
		}
	}
	for _, f := range calls {
		if f.takes != limits {
			continue
		}
		for _, b := range noLists {
			if got, e := f.do(args{b.lo, b.hi}); e != api.ErrArg || !areZero(got) {
				t.Error(f.name, len(b.lo), len(b.hi), got, e)
			}
		}
		for _, b := range noBounds {
			if got, e := f.do(args{b.lo, b.hi}); e != api.ErrSteady || !areZero(got) {
				t.Error(f.name, b, got, e)
			}
		}
	}
}

// TestZeroNextToErrors: R2, and the errors that each call may return.
func TestZeroNextToErrors(t *testing.T) {
	may := map[string][]api.Errno{
		"Table": {api.ErrSteady, api.ErrNone}, "Right": {api.ErrSteady, api.ErrNone}, "Weave": {api.ErrArg}, "Turned": {api.ErrSteady, api.ErrArg}, "Times": {api.ErrSteady, api.ErrLarge}, "Disc": {api.ErrSteady, api.ErrNone, api.ErrLarge},
		"CheckBounds": {api.ErrArg, api.ErrSteady}, "Corners": {api.ErrArg, api.ErrSteady}, "AllSteady": {api.ErrArg, api.ErrSteady}, "Fault": {api.ErrArg, api.ErrSteady},
		"Check": {api.ErrSteady}, "IsSteady": {api.ErrSteady}, "Minors": {api.ErrSteady}, "Halves": {api.ErrSteady}, "IsInner": {api.ErrSteady},
	}
	seen := map[string]map[api.Errno]bool{}
	for _, x := range someArgs(10) {
		for _, f := range calls {
			got, e := f.do(x)
			if (e != api.OK || slices.Contains(got, any(false))) && !areZero(got) {
				t.Error(f.name, x, got, e)
			}
			if e != api.OK && !slices.Contains(may[f.name], e) {
				t.Error(f.name, x, e)
			}
			if seen[f.name] == nil {
				seen[f.name] = map[api.Errno]bool{}
			}
			seen[f.name][e] = true
		}
	}
	for name, errors := range may {
		if len(seen[name]) != len(errors)+1 {
			t.Error(name, seen[name])
		}
	}
}

// room is how many numbers behind the end of a list are filled.
const room = 9

// guarded is a copy of a list with room behind it that is filled.
func guarded(list []int, fill int) []int {
	return append(slices.Clone(list), slices.Repeat([]int{fill}, room)...)[:len(list)]
}

// isAsFilled is whether a list and the room behind it are what they were.
func isAsFilled(list, want []int, fill int) bool {
	return slices.Equal(list, want) && slices.Equal(list[len(list):len(list)+room], slices.Repeat([]int{fill}, room))
}

// spoil overwrites all that is in a list and behind it.
func spoil[T any](list []T, with T) {
	list = list[:cap(list)]
	for i := range list {
		list[i] = with
	}
}

// spoilResult overwrites all that is in a result.
func spoilResult(result any) {
	switch list := result.(type) {
	case []int:
		spoil(list, -99)
	case []int64:
		spoil(list, -99)
	case [][][2]int64:
		for _, row := range list {
			spoil(row, [2]int64{-99, -99})
		}
		spoil(list, nil)
	}
}

// TestMemory: R3, R4 and R7: arguments and what is behind them stay what they are, do not count, and are not shared with results.
func TestMemory(t *testing.T) {
	for _, x := range someArgs(20) {
		if len(x.a)+len(x.b) > 100 {
			continue
		}
		for _, f := range calls {
			want, wantE := f.do(x)
			for _, fill := range []int{-77, 0, 1} {
				guards := args{guarded(x.a, fill), guarded(x.b, fill)}
				got, e := f.do(guards)
				if fmt.Sprint(got, e) != fmt.Sprint(want, wantE) {
					t.Error(f.name, x, fill, got, e)
				}
				for _, result := range got {
					spoilResult(result)
				}
				if !isAsFilled(guards.a, x.a, fill) || !isAsFilled(guards.b, x.b, fill) {
					t.Error(f.name, x, guards)
				}
				if again, e := f.do(guards); fmt.Sprint(again, e) != fmt.Sprint(want, wantE) {
					t.Error(f.name, x, fill, again, e)
				}
			}
		}
	}
}

// TestResultsAreApart: R4, results, and the rows of a table, that share nothing with each other.
func TestResultsAreApart(t *testing.T) {
	for _, x := range someArgs(20) {
		for _, f := range calls {
			want, _ := f.do(x)
			for i := range want {
				got, _ := f.do(x)
				spoilResult(got[i])
				for k := range got {
					if k != i && fmt.Sprint(got[k]) != fmt.Sprint(want[k]) {
						t.Error(f.name, x, i, k, got[k], want[k])
					}
				}
			}
		}
		want, _ := steady.Table(x.a)
		for i := range want {
			rows, _ := steady.Table(x.a)
			spoil(rows[i], [2]int64{-99, -99})
			for k := range rows {
				if k != i && !slices.Equal(rows[k], want[k]) {
					t.Error(x.a, i, k, rows[k], want[k])
				}
			}
		}
	}
}

// TestAgain: R7, the results of calls that are done again and again, in any order.
func TestAgain(t *testing.T) {
	some := someArgs(40)
	said := func(x args) []string {
		var list []string
		for _, f := range calls {
			got, e := f.do(x)
			list = append(list, fmt.Sprint(f.name, got, e))
		}
		return list
	}
	var first [][]string
	for _, x := range some {
		first = append(first, said(x))
	}
	for i, x := range slices.Backward(some) {
		if again := said(x); !slices.Equal(again, first[i]) {
			t.Error(x, first[i], again)
		}
	}
}

// TestEveryCallEnds: P1, with lists and numbers that make no sense.
func TestEveryCallEnds(t *testing.T) {
	extremes := []int{math.MinInt, math.MinInt + 1, -31, -30, -1, 0, 1, 2, 30, 31, 1 << 32, math.MaxInt}
	for _, one := range extremes {
		for _, other := range extremes {
			for _, size := range []int{0, 1, 2, 3, 4, 6, 7, 1000} {
				for _, otherSize := range []int{0, 1, 3, 6, 7} {
					a, b := slices.Repeat([]int{one}, size), slices.Repeat([]int{other}, otherSize)
					last := append(slices.Clone(a), other)
					for _, f := range calls {
						f.do(args{a, b})
						f.do(args{b, a})
						f.do(args{last, b})
						f.do(args{a, last})
					}
				}
			}
		}
	}
}
