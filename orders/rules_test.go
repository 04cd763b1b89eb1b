package orders_test

import (
	"fmt"
	"math"
	"reflect"
	"slices"
	"testing"

	"girouette/api"
	"girouette/orders"
)

// call is a function that takes a graph or an order; l is the arrows that some of them take.
type call struct {
	name string
	do   func(g graph, l [][2]int) ([]any, api.Errno)
}

// first is the first of the arrows, if there is one.
func first(l [][2]int) [2]int {
	if len(l) == 0 {
		return [2]int{}
	}
	return l[0]
}

var graphCalls = []call{
	{"Check", func(g graph, _ [][2]int) ([]any, api.Errno) { return nil, orders.Check(g.n, g.edges) }},
	{"Others", func(g graph, _ [][2]int) ([]any, api.Errno) {
		x, e := orders.Others(g.n, g.edges)
		return []any{x}, e
	}},
	{"Forces", func(g graph, l [][2]int) ([]any, api.Errno) {
		x, e := orders.Forces(g.n, g.edges, first(l), first(l))
		return []any{x}, e
	}},
	{"Class", func(g graph, l [][2]int) ([]any, api.Errno) {
		x, e := orders.Class(g.n, g.edges, first(l))
		return []any{x}, e
	}},
	{"Classes", func(g graph, _ [][2]int) ([]any, api.Errno) {
		x, e := orders.Classes(g.n, g.edges)
		return []any{x}, e
	}},
	{"Orient", func(g graph, _ [][2]int) ([]any, api.Errno) {
		x, ok, e := orders.Orient(g.n, g.edges)
		return []any{x, ok}, e
	}},
	{"Clash", func(g graph, _ [][2]int) ([]any, api.Errno) {
		x, ok, e := orders.Clash(g.n, g.edges)
		return []any{x, ok}, e
	}},
	{"IsClash", func(g graph, l [][2]int) ([]any, api.Errno) {
		ok, e := orders.IsClash(g.n, g.edges, l)
		return []any{ok}, e
	}},
	{"Count", func(g graph, _ [][2]int) ([]any, api.Errno) { x, e := orders.Count(g.n, g.edges); return []any{x}, e }},
	{"Draw", func(g graph, _ [][2]int) ([]any, api.Errno) {
		x, ok, e := orders.Draw(g.n, g.edges)
		return []any{x, ok}, e
	}},
}

var orderCalls = []call{
	{"CheckOrder", func(g graph, _ [][2]int) ([]any, api.Errno) { return nil, orders.CheckOrder(g.n, g.edges) }},
	{"Turned", func(g graph, _ [][2]int) ([]any, api.Errno) {
		x, e := orders.Turned(g.n, g.edges)
		return []any{x}, e
	}},
	{"Chain", func(g graph, _ [][2]int) ([]any, api.Errno) { x, e := orders.Chain(g.n, g.edges); return []any{x}, e }},
	{"Layers", func(g graph, _ [][2]int) ([]any, api.Errno) {
		x, e := orders.Layers(g.n, g.edges)
		return []any{x}, e
	}},
	{"Realize", func(g graph, _ [][2]int) ([]any, api.Errno) {
		x, ok, e := orders.Realize(g.n, g.edges)
		return []any{x, ok}, e
	}},
}

// isZero is whether a result is its zero value; an empty slice is one.
func isZero(x any) bool {
	v := reflect.ValueOf(x)
	if lines, ok := x.([2][]int); ok {
		return len(lines[0])+len(lines[1]) == 0
	}
	return v.IsZero() || v.Kind() == reflect.Slice && v.Len() == 0
}

// errorCase is a graph or an order with the error that all calls return.
type errorCase struct {
	graph
	want api.Errno
}

func checkErrors(t *testing.T, calls []call, cases []errorCase) {
	t.Helper()
	for _, c := range cases {
		for _, f := range calls {
			for _, l := range [][][2]int{nil, {{0, 1}}, {{math.MaxInt, -1}}} {
				got, e := f.do(c.graph, l)
				if e != c.want || slices.ContainsFunc(got, func(x any) bool { return !isZero(x) }) {
					t.Error(f.name, c, l, got, e)
				}
			}
		}
	}
}

// TestGraphFirst: R1 and R2, of graphs and of orders.
func TestGraphFirst(t *testing.T) {
	checkErrors(t, graphCalls, []errorCase{
		{graph{0, nil}, api.ErrArg},
		{graph{8, [][2]int{{0, 1}}}, api.ErrArg},
		{graph{math.MinInt, [][2]int{{0, 0}}}, api.ErrArg},
		{graph{math.MaxInt, [][2]int{{1, 0}}}, api.ErrArg},
		{graph{1, [][2]int{{0, 1}}}, api.ErrGraph},
		{graph{3, [][2]int{{1, 0}}}, api.ErrGraph},
		{graph{3, [][2]int{{1, 2}, {0, 1}}}, api.ErrGraph},
		{graph{3, [][2]int{{0, 1}, {0, 1}}}, api.ErrGraph},
		{graph{7, [][2]int{{0, 1}, {math.MinInt, math.MaxInt}}}, api.ErrGraph},
	})
	checkErrors(t, orderCalls, []errorCase{
		{graph{0, nil}, api.ErrArg},
		{graph{8, [][2]int{{0, 1}}}, api.ErrArg},
		{graph{math.MinInt, [][2]int{{0, 0}}}, api.ErrArg},
		{graph{math.MaxInt, [][2]int{{1, 0}}}, api.ErrArg},
		{graph{1, [][2]int{{0, 1}}}, api.ErrOrder},
		{graph{3, [][2]int{{0, 1}, {1, 0}}}, api.ErrOrder},
		{graph{3, [][2]int{{0, 1}, {1, 2}}}, api.ErrOrder},
		{graph{3, [][2]int{{1, 2}, {0, 1}}}, api.ErrOrder},
		{graph{7, [][2]int{{0, 1}, {math.MinInt, math.MaxInt}}}, api.ErrOrder},
	})
}

// TestZeroNextToFalse: R2.
func TestZeroNextToFalse(t *testing.T) {
	isNone := func(name string, x any, ok bool, e api.Errno) {
		t.Helper()
		if ok || e != api.OK || !isZero(x) {
			t.Error(name, x, ok, e)
		}
	}
	ring := ringOf(5)
	x, ok, e := orders.Orient(5, ring.edges)
	isNone("Orient", x, ok, e)
	lines, ok, e := orders.Draw(5, ring.edges)
	isNone("Draw", lines, ok, e)
	x, ok, e = orders.Clash(4, ringOf(4).edges)
	isNone("Clash", x, ok, e)
	order, _ := oriented(t, ringOf(6))
	lines, ok, e = orders.Realize(6, order)
	isNone("Realize", lines, ok, e)
}

// guarded is a copy of the list with room behind it that is filled.
func guarded[T any](l []T, fill T) []T {
	return append(slices.Clone(l), slices.Repeat([]T{fill}, 12)...)[:len(l)]
}

func unchanged[T comparable](now, was []T, fill T) bool {
	return slices.Equal(now[:len(was)+12], guarded(was, fill)[:len(was)+12])
}

// overwrite fills the list, and the room behind it.
func overwrite[T any](l []T, fill T) {
	for i := range l[:cap(l)] {
		l[:cap(l)][i] = fill
	}
}

// spoil overwrites all that is in a result.
func spoil(x any) {
	switch l := x.(type) {
	case []int:
		overwrite(l, -99)
	case [][2]int:
		overwrite(l, [2]int{-99, -99})
	case [2][]int:
		overwrite(l[0], -99)
		overwrite(l[1], -99)
	}
}

// TestMemory: R4 and R7.
func TestMemory(t *testing.T) {
	fill := [2]int{77, 77}
	for _, g := range []graph{{1, nil}, wayOf(3), ringOf(4), ringOf(5), fullOf(6), starOf(7), ringOf(7)} {
		list := [][2]int{{0, 1}, {0, g.n - 1}, {1, 0}}
		for _, f := range slices.Concat(graphCalls, orderCalls) {
			arg, l := graph{g.n, guarded(g.edges, fill)}, guarded(list, fill)
			got, _ := f.do(arg, l)
			said := fmt.Sprint(got)
			for _, x := range got {
				spoil(x)
			}
			if !unchanged(arg.edges, g.edges, fill) || !unchanged(l, list, fill) {
				t.Error(f.name, g, arg, l)
			}
			if again, _ := f.do(arg, l); fmt.Sprint(again) != said {
				t.Error(f.name, g, said, again)
			}
		}
	}
}

// TestMemoryOfLines: neither the lines that are given nor those that are returned share memory.
func TestMemoryOfLines(t *testing.T) {
	one, other := []int{0, 1, 2}, []int{2, 0, 1}
	lines := [2][]int{guarded(one, 77), guarded(other, 77)}
	for range 2 {
		edges, e := orders.Drawn(3, lines)
		arrows, f := orders.Common(3, lines)
		if e != api.OK || f != api.OK || len(edges) != 2 || len(arrows) != 1 {
			t.Error(edges, arrows, e, f)
		}
		spoil(edges)
		spoil(arrows)
		if !unchanged(lines[0], one, 77) || !unchanged(lines[1], other, 77) {
			t.Error(lines)
		}
	}
	drawn, _, _ := orders.Draw(3, nil)
	realized, _, _ := orders.Realize(3, nil)
	for _, two := range [][2][]int{drawn, realized} {
		overwrite(two[0], -99)
		_ = append(two[0], -99, -99, -99)
		if !areLines(3, [2][]int{two[1], two[1]}) {
			t.Error(two)
		}
	}
}

// TestEveryCallEnds: P1, with lists that are long or make no sense.
func TestEveryCallEnds(t *testing.T) {
	long := make([][2]int, 100000)
	lists := [][][2]int{
		nil, {}, {{0, 0}}, {{-1, 1}}, {{1, 0}}, wayOf(3).edges, fullOf(7).edges, ringOf(7).edges, {{math.MinInt, math.MaxInt}}, long,
	}
	for _, n := range append([]int{0, 1, 2, 3, 6}, far...) {
		for _, edges := range lists {
			for _, l := range lists {
				for _, f := range slices.Concat(graphCalls, orderCalls) {
					f.do(graph{n, edges}, l)
				}
			}
		}
		for _, lines := range [][2][]int{{}, {far, far}, {{n}, {n}}, {{0}, {0}}, {make([]int, 100000), {0, 1}}} {
			orders.Drawn(n, lines)
			orders.Common(n, lines)
		}
	}
}
