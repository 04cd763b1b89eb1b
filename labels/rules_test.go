package labels_test

import (
	"fmt"
	"math"
	"reflect"
	"slices"
	"testing"

	"girouette/api"
	"girouette/labels"
)

// call is a function that takes a graph; l is the labels that some of them take.
type call struct {
	name string
	do   func(g graph, l []int) ([]any, api.Errno)
}

var calls = []call{
	{"Check", func(g graph, _ []int) ([]any, api.Errno) { return nil, labels.Check(g.n, g.edges) }},
	{"Label", func(g graph, _ []int) ([]any, api.Errno) {
		x, ok, e := labels.Label(g.n, g.edges)
		return []any{x, ok}, e
	}},
	{"Count", func(g graph, _ []int) ([]any, api.Errno) { x, e := labels.Count(g.n, g.edges); return []any{x}, e }},
	{"IsGraceful", func(g graph, l []int) ([]any, api.Errno) {
		ok, e := labels.IsGraceful(g.n, g.edges, l)
		return []any{ok}, e
	}},
	{"Part", func(g graph, _ []int) ([]any, api.Errno) {
		x, ok, e := labels.Part(g.n, g.edges)
		return []any{x, ok}, e
	}},
	{"Parts", func(g graph, l []int) ([]any, api.Errno) {
		x, ok, e := labels.Parts(g.n, g.edges, l)
		return []any{x, ok}, e
	}},
	{"Turned", func(g graph, l []int) ([]any, api.Errno) {
		x, e := labels.Turned(g.n, g.edges, l)
		return []any{x}, e
	}},
	{"Copies", func(g graph, l []int) ([]any, api.Errno) {
		x, e := labels.Copies(g.n, g.edges, l)
		return []any{x}, e
	}},
	{"IsCaterpillar", func(g graph, _ []int) ([]any, api.Errno) {
		ok, e := labels.IsCaterpillar(g.n, g.edges)
		return []any{ok}, e
	}},
	{"Crawl", func(g graph, _ []int) ([]any, api.Errno) { x, e := labels.Crawl(g.n, g.edges); return []any{x}, e }},
}

// isZero is whether a result is its zero value; an empty slice is one.
func isZero(x any) bool {
	v := reflect.ValueOf(x)
	return v.IsZero() || v.Kind() == reflect.Slice && v.Len() == 0
}

// TestGraphFirst: R1 and R2, whatever the labels are.
func TestGraphFirst(t *testing.T) {
	for _, c := range []struct {
		graph
		want api.Errno
	}{
		{graph{1, nil}, api.ErrArg},
		{graph{8, way.edges}, api.ErrArg},
		{graph{math.MinInt, [][2]int{{0, 0}}}, api.ErrArg},
		{graph{3, nil}, api.ErrGraph},
		{graph{2, way.edges}, api.ErrGraph},
		{graph{3, [][2]int{{1, 2}, {0, 1}}}, api.ErrGraph},
		{graph{3, [][2]int{{0, 1}, {math.MinInt, math.MaxInt}}}, api.ErrGraph},
		{graph{7, pairsOf(7)[:11]}, api.ErrGraph},
	} {
		for _, f := range calls {
			for _, l := range [][]int{nil, {0, 2, 1}, {math.MaxInt, -1}} {
				got, e := f.do(c.graph, l)
				if e != c.want {
					t.Error(f.name, c, l, e)
				}
				for _, x := range got {
					if !isZero(x) {
						t.Error(f.name, c, l, got)
					}
				}
			}
		}
	}
}

// guarded is a copy of the list with room behind it that is filled.
func guarded[T any](l []T, fill T) []T {
	return append(slices.Clone(l), slices.Repeat([]T{fill}, 12)...)[:len(l)]
}

func unchanged[T comparable](now, was []T, fill T) bool {
	return slices.Equal(now[:len(was)+12], guarded(was, fill)[:len(was)+12])
}

// overwrite fills the list, and the room behind it.
func overwrite[T any](l []T, fill T) {
	for i := range l[:cap(l)] {
		l[:cap(l)][i] = fill
	}
}

// spoil overwrites all that is in a result.
func spoil(x any) {
	switch l := x.(type) {
	case []int:
		overwrite(l, -99)
	case [][2]int:
		overwrite(l, [2]int{-99, -99})
	case [][][2]int:
		for _, edges := range l {
			spoil(edges)
		}
		overwrite(l, nil)
	}
}

// TestMemory: R4 and R7.
func TestMemory(t *testing.T) {
	fill := [2]int{77, 77}
	for _, c := range []struct {
		graph
		labels []int
	}{{way, []int{0, 2, 1}}, {full, []int{0, 1, 4, 6}}, {ring, []int{0, 1, 2, 3, 4}}, {starOf(7), []int{6, 1, 2, 3, 4, 5, 0}}} {
		for _, f := range calls {
			arg, l := graph{c.n, guarded(c.edges, fill)}, guarded(c.labels, 77)
			got, _ := f.do(arg, l)
			said := fmt.Sprint(got)
			for _, x := range got {
				spoil(x)
			}
			if !unchanged(arg.edges, c.edges, fill) || !unchanged(l, c.labels, 77) {
				t.Error(f.name, c, arg, l)
			}
			if again, _ := f.do(arg, l); fmt.Sprint(again) != said {
				t.Error(f.name, c, said, again)
			}
		}
	}
}

// TestMemoryOfCopies: no two slices of one result share memory.
func TestMemoryOfCopies(t *testing.T) {
	copies, _ := labels.Copies(way.n, way.edges, []int{0, 2, 1})
	second := slices.Clone(copies[1])
	spoil(copies[0])
	_ = append(copies[0], [2]int{-99, -99})
	if !slices.Equal(copies[1], second) {
		t.Error(copies[1], second)
	}
}

func TestMemoryOfOthers(t *testing.T) {
	fill := [2]int{77, 77}
	one := guarded([][2]int{{0, 1}, {0, 2}, {1, 2}}, fill)
	copies := guarded([][][2]int{one}, [][2]int{{0, 9}})
	if ok, e := labels.Covers(3, copies); !ok || e != api.OK {
		t.Error(ok, e)
	}
	if !unchanged(one, [][2]int{{0, 1}, {0, 2}, {1, 2}}, fill) || copies[:2][1][0] != [2]int{0, 9} {
		t.Error(one, copies)
	}
	for many := 2; many <= 7; many++ {
		marks := guarded([]int{0, 1, 3}, 77)
		longer, ok, _ := labels.Extend(marks, many)
		said := fmt.Sprint(longer)
		spoil(longer)
		if is, _ := labels.IsRuler(marks); !is || !unchanged(marks, []int{0, 1, 3}, 77) {
			t.Error(many, marks, is)
		}
		if again, still, _ := labels.Extend(marks, many); fmt.Sprint(again) != said || ok != still {
			t.Error(many, said, again)
		}
		first, _ := labels.Ruler(many)
		said = fmt.Sprint(first)
		spoil(first)
		if again, _ := labels.Ruler(many); fmt.Sprint(again) != said {
			t.Error(many, said, again)
		}
	}
}

// TestEveryCallEnds: P1, with lists that are long or make no sense.
func TestEveryCallEnds(t *testing.T) {
	long := make([]int, 100000)
	edges := make([][2]int, 100000)
	numbers := []int{math.MinInt, -1, 0, 1, 2, 3, 6, 7, 8, 21, 64, math.MaxInt}
	for _, n := range numbers {
		for _, l := range [][][2]int{nil, {}, {{0, 0}}, {{-1, 1}}, way.edges, full.edges, pairsOf(6)[:10], {{math.MinInt, math.MaxInt}}, edges} {
			for _, f := range calls {
				for _, given := range [][]int{nil, {0, 2, 1}, numbers, long} {
					f.do(graph{n, l}, given)
				}
			}
			labels.Covers(n, [][][2]int{l})
			labels.Covers(n, [][][2]int{nil, l, l})
		}
		labels.Ruler(n)
		for _, marks := range [][]int{nil, {0}, {0, n}, {n, 0}, {0, 1, n}, {0, n, 5}, numbers, long} {
			labels.IsRuler(marks)
			labels.Extend(marks, n)
			labels.Extend(marks, 7)
		}
	}
	labels.Covers(3, make([][][2]int, 100000))
}
