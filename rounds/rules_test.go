package rounds_test

import (
	"fmt"
	"math"
	"reflect"
	"slices"
	"testing"

	"girouette/api"
	"girouette/rounds"
)

// call is a function that takes rounds; l is the teams that some of them take.
type call struct {
	name string
	do   func(p plan, l []int) ([]any, api.Errno)
}

// first and second are the first two items, if there are any.
func first[T any](l []T) (x T) {
	if len(l) > 0 {
		x = l[0]
	}
	return x
}

func second[T any](l []T) (x T) {
	if len(l) > 1 {
		x = l[1]
	}
	return x
}

// scheduleCalls is the functions that take a schedule.
var scheduleCalls = []call{
	{"Check", func(p plan, _ []int) ([]any, api.Errno) { return nil, rounds.Check(p.n, p.list) }},
	{"Breaks", func(p plan, _ []int) ([]any, api.Errno) { x, e := rounds.Breaks(p.n, p.list); return []any{x}, e }},
	{"Homes", func(p plan, _ []int) ([]any, api.Errno) { x, e := rounds.Homes(p.n, p.list); return []any{x}, e }},
	{"Least", func(p plan, _ []int) ([]any, api.Errno) {
		x, l, e := rounds.Least(p.n, p.list)
		return []any{x, l}, e
	}},
	{"Follow", func(p plan, _ []int) ([]any, api.Errno) { x, e := rounds.Follow(p.n, p.list); return []any{x}, e }},
	{"IsBalanced", func(p plan, _ []int) ([]any, api.Errno) {
		x, e := rounds.IsBalanced(p.n, p.list)
		return []any{x}, e
	}},
	{"IsPerfect", func(p plan, _ []int) ([]any, api.Errno) {
		x, e := rounds.IsPerfect(p.n, p.list)
		return []any{x}, e
	}},
	{"Opponents", func(p plan, l []int) ([]any, api.Errno) {
		x, e := rounds.Opponents(p.n, p.list, first(l))
		return []any{x}, e
	}},
	{"Renamed", func(p plan, l []int) ([]any, api.Errno) {
		x, e := rounds.Renamed(p.n, p.list, l)
		return []any{x}, e
	}},
}

// otherCalls is the functions that take no schedule.
var otherCalls = []call{
	{"Make", func(p plan, _ []int) ([]any, api.Errno) { x, e := rounds.Make(p.n); return []any{x}, e }},
	{"Balanced", func(p plan, _ []int) ([]any, api.Errno) { x, e := rounds.Balanced(p.n); return []any{x}, e }},
	{"Perfect", func(p plan, _ []int) ([]any, api.Errno) { x, e := rounds.Perfect(p.n); return []any{x}, e }},
	{"Rings", func(p plan, _ []int) ([]any, api.Errno) {
		x, e := rounds.Rings(p.n, first(p.list), second(p.list))
		return []any{x}, e
	}},
	{"Complete", func(p plan, _ []int) ([]any, api.Errno) {
		x, ok, e := rounds.Complete(p.n, p.list)
		return []any{x, ok}, e
	}},
}

// isZero is whether a result is its zero value; an empty slice is one.
func isZero(x any) bool {
	v := reflect.ValueOf(x)
	return v.IsZero() || v.Kind() == reflect.Slice && v.Len() == 0
}

// TestScheduleFirst: P4.1 and R1, R2 and R9: what a schedule has to be comes before the other arguments.
func TestScheduleFirst(t *testing.T) {
	ten, _ := rounds.Make(10)
	for _, c := range []struct {
		plan
		want api.Errno
	}{
		{plan{0, nil}, api.ErrArg},
		{plan{1, nil}, api.ErrArg},
		{plan{3, four.list}, api.ErrArg},
		{plan{5, four.list[:1]}, api.ErrArg},
		{plan{9, ten}, api.ErrArg},
		{plan{11, ten}, api.ErrArg},
		{plan{12, ten}, api.ErrArg},
		{plan{math.MinInt, four.list}, api.ErrArg},
		{plan{-4, four.list}, api.ErrArg},
		{plan{math.MaxInt, [][][2]int{{{0, 0}}}}, api.ErrArg},
		{plan{2, nil}, api.ErrRounds},
		{plan{2, four.list}, api.ErrRounds},
		{plan{6, four.list}, api.ErrRounds},
		{plan{6, threes.list}, api.ErrRounds},
		{plan{8, ten}, api.ErrRounds},
		{plan{10, ten[1:]}, api.ErrRounds},
		{plan{10, slices.Concat(ten[1:], ten[1:2])}, api.ErrRounds},
		{plan{10, slices.Concat(ten, ten[1:2])}, api.ErrRounds},
		{plan{4, four.list[:2]}, api.ErrRounds},
		{plan{4, [][][2]int{{{0, 1}, {2, 3}}, {{2, 0}, {1, 3}}, {{0, 3}, {1, 4}}}}, api.ErrRounds},
		{plan{4, [][][2]int{{{0, 1}, {2, 3}}, {{2, 0}, {1, 3}}, {{0, 3}, {1, -2}}}}, api.ErrRounds},
		{plan{4, [][][2]int{{{0, 1}, {2, 3}}, {{2, 0}, {1, 3}}, {{0, 0}, {1, 2}}}}, api.ErrRounds},
		{plan{4, [][][2]int{{{0, 1}, {2, 3}}, {{2, 0}, {1, 3}}, {{1, 0}, {3, 2}}}}, api.ErrRounds},
		{plan{4, [][][2]int{{{0, 1}, {2, 3}}, {{2, 0}, {1, 3}}, {{0, math.MaxInt}, {math.MinInt, 2}}}}, api.ErrRounds},
	} {
		for _, f := range scheduleCalls {
			for _, l := range [][]int{nil, {0, 1, 2, 3}, {-1}, {math.MaxInt, 0}} {
				got, e := f.do(c.plan, l)
				if e != c.want || slices.ContainsFunc(got, func(x any) bool { return !isZero(x) }) {
					t.Error(f.name, c, l, got, e)
				}
			}
		}
	}
}

// room is how many items behind the end of a list are filled.
const room = 12

// guarded is a copy of the list with room behind it that is filled.
func guarded[T any](l []T, fill T) []T {
	return append(slices.Clone(l), slices.Repeat([]T{fill}, room)...)[:len(l)]
}

// guardedPlan is a copy of the plan with such room everywhere.
func guardedPlan(p plan) plan {
	q := plan{n: p.n}
	for _, games := range p.list {
		q.list = append(q.list, guarded(games, [2]int{77, 77}))
	}
	q.list = guarded(q.list, [][2]int{{77, 77}})
	return q
}

// written is all that is in the memory of a plan.
func written(p plan) string {
	s := ""
	for _, games := range p.list[:len(p.list)+room] {
		s += fmt.Sprint(games, games[:cap(games)])
	}
	return s
}

// overwrite fills the list, and the room behind it.
func overwrite[T any](l []T, fill T) {
	for i := range l[:cap(l)] {
		l[:cap(l)][i] = fill
	}
}

// spoil overwrites all that is in a result.
func spoil(x any) {
	switch l := x.(type) {
	case []int:
		overwrite(l, -99)
	case []string:
		overwrite(l, "?")
	case [][]int:
		for _, row := range l {
			overwrite(row, -99)
		}
		overwrite(l, nil)
	case [][][2]int:
		for _, games := range l {
			overwrite(games, [2]int{-99, -99})
		}
		overwrite(l, nil)
	}
}

// TestMemory: R4 and R7.
func TestMemory(t *testing.T) {
	plans := []plan{four, threes, {2, [][][2]int{{{1, 0}}}}, {4, nil}, {6, threes.list[:2]}, {8, nil}}
	for n := 4; n <= 10; n += 2 {
		plans = append(plans, made(t, n, rounds.Make))
	}
	for _, p := range plans {
		names := upTo(p.n)
		slices.Reverse(names)
		for _, f := range slices.Concat(scheduleCalls, otherCalls) {
			arg, l := guardedPlan(p), guarded(names, 77)
			got, _ := f.do(arg, l)
			said := fmt.Sprint(got)
			for _, x := range got {
				spoil(x)
			}
			if written(arg) != written(guardedPlan(p)) || !slices.Equal(l[:p.n+room], guarded(names, 77)[:p.n+room]) {
				t.Error(f.name, p, arg, l)
			}
			if again, _ := f.do(arg, l); fmt.Sprint(again) != said {
				t.Error(f.name, p, said, again)
			}
		}
	}
}

// TestMemoryWithinResult: no two lists of one result share memory.
func TestMemoryWithinResult(t *testing.T) {
	for _, p := range []plan{four, made(t, 6, rounds.Make), made(t, 8, rounds.Balanced)} {
		for _, f := range slices.Concat(scheduleCalls, otherCalls) {
			for i := range p.n {
				got, _ := f.do(p, upTo(p.n))
				for _, x := range got {
					spoilOne(t, f.name, x, i)
				}
			}
		}
	}
}

// spoilOne overwrites one of the lists of a result, and compares what is then in the others.
func spoilOne(t *testing.T, name string, x any, i int) {
	t.Helper()
	said := fmt.Sprint(x)
	switch l := x.(type) {
	case [][]int:
		if i < len(l) {
			keep := slices.Clone(l[i])
			overwrite(l[i], -99)
			l[i] = keep
		}
	case [][][2]int:
		if i < len(l) {
			keep := slices.Clone(l[i])
			overwrite(l[i], [2]int{-99, -99})
			l[i] = keep
		}
	}
	if fmt.Sprint(x) != said {
		t.Error(name, said, x)
	}
}

// TestEveryCallEnds: P1, with lists that are long or make no sense.
func TestEveryCallEnds(t *testing.T) {
	ten, _ := rounds.Make(10)
	lists := [][][][2]int{
		nil, {}, {nil}, {{{0, 0}}}, {{{-1, 1}}}, {{{1, 0}}}, four.list, threes.list, ten, ten[:4],
		{{{math.MinInt, math.MaxInt}}}, make([][][2]int, 100000), {make([][2]int, 100000)},
		slices.Repeat([][][2]int{make([][2]int, 5)}, 9),
	}
	for _, n := range append([]int{0, 1, 2, 3, 4, 6, 8, 10}, far...) {
		for _, list := range lists {
			for _, l := range [][]int{nil, {0}, {n}, far, upTo(10), make([]int, 100000)} {
				for _, f := range slices.Concat(scheduleCalls, otherCalls) {
					f.do(plan{n, list}, l)
				}
			}
		}
	}
}
