package sofic_test

import (
	"fmt"
	"math"
	"reflect"
	"slices"
	"strings"
	"testing"

	"girouette/api"
	"girouette/sofic"
)

// call is a function that takes a net; b is the other net of Same, and some take a word or numbers.
type call struct {
	name string
	do   func(a, b [][2]int, word string, l [2]int) ([]any, api.Errno)
}

// calls is all functions.
var calls = []call{
	{"Check", func(a, _ [][2]int, _ string, _ [2]int) ([]any, api.Errno) { return nil, sofic.Check(a) }},
	{"Is", func(a, _ [][2]int, word string, _ [2]int) ([]any, api.Errno) {
		x, e := sofic.Is(a, word)
		return []any{x}, e
	}},
	{"Ends", func(a, _ [][2]int, word string, _ [2]int) ([]any, api.Errno) {
		x, e := sofic.Ends(a, word)
		return []any{x}, e
	}},
	{"Count", func(a, _ [][2]int, _ string, l [2]int) ([]any, api.Errno) {
		x, e := sofic.Count(a, l[0])
		return []any{x}, e
	}},
	{"Words", func(a, _ [][2]int, _ string, l [2]int) ([]any, api.Errno) {
		x, e := sofic.Words(a, l[0])
		return []any{x}, e
	}},
	{"Hangs", func(a, _ [][2]int, _ string, _ [2]int) ([]any, api.Errno) {
		x, e := sofic.Hangs(a)
		return []any{x}, e
	}},
	{"Equal", func(a, _ [][2]int, _ string, _ [2]int) ([]any, api.Errno) {
		x, e := sofic.Equal(a)
		return []any{x}, e
	}},
	{"Form", func(a, _ [][2]int, _ string, _ [2]int) ([]any, api.Errno) {
		x, e := sofic.Form(a)
		return []any{x}, e
	}},
	{"Apart", func(a, _ [][2]int, _ string, l [2]int) ([]any, api.Errno) {
		x, ok, e := sofic.Apart(a, l[0], l[1])
		return []any{x, ok}, e
	}},
	{"Tells", func(a, _ [][2]int, _ string, _ [2]int) ([]any, api.Errno) {
		x, ok, e := sofic.Tells(a)
		return []any{x, ok}, e
	}},
	{"Memory", func(a, _ [][2]int, _ string, _ [2]int) ([]any, api.Errno) {
		x, ok, e := sofic.Memory(a)
		return []any{x, ok}, e
	}},
	{"Doubt", func(a, _ [][2]int, _ string, _ [2]int) ([]any, api.Errno) {
		x, y, ok, e := sofic.Doubt(a)
		return []any{x, y, ok}, e
	}},
	{"Forbidden", func(a, _ [][2]int, _ string, l [2]int) ([]any, api.Errno) {
		x, e := sofic.Forbidden(a, l[0])
		return []any{x}, e
	}},
	{"Rounds", func(a, _ [][2]int, _ string, l [2]int) ([]any, api.Errno) {
		x, e := sofic.Rounds(a, l[0])
		return []any{x}, e
	}},
	{"Signed", func(a, _ [][2]int, _ string, l [2]int) ([]any, api.Errno) {
		x, e := sofic.Signed(a, l[0])
		return []any{x}, e
	}},
	{"Same", func(a, b [][2]int, _ string, _ [2]int) ([]any, api.Errno) {
		x, ok, e := sofic.Same(a, b)
		return []any{x, ok}, e
	}},
}

// isZero is whether a result is its zero value; an empty slice is one.
func isZero(x any) bool {
	v := reflect.ValueOf(x)
	return v.IsZero() || v.Kind() == reflect.Slice && v.Len() == 0
}

// areZero is whether all results are their zero values.
func areZero(results []any) bool {
	return !slices.ContainsFunc(results, func(x any) bool { return !isZero(x) })
}

// someNumbers is numbers that calls take, right or wrong.
func someNumbers() [][2]int {
	return [][2]int{{0, 0}, {1, 0}, {0, 1}, {2, 1}, {4, 3}, {7, 7}, {8, 0}, {9, 0}, {10, 0}, {11, 0}, {12, 0}, {13, 0}, {-1, 0}, {0, -1}, {0, 5}, {math.MinInt, 0}, {math.MaxInt, math.MaxInt}}
}

// TestNetFirst: P7.1, R1 and R2: what is no net comes before the other arguments.
func TestNetFirst(t *testing.T) {
	for _, net := range noNets {
		for _, f := range calls {
			for _, word := range []string{"", "a", "ab", "c", strings.Repeat("a", 101)} {
				for _, l := range someNumbers() {
					if got, e := f.do(net, net, word, l); e != api.ErrSofic || !areZero(got) {
						t.Error(f.name, len(net), word, l, got, e)
					}
				}
			}
		}
		for _, good := range [][][2]int{golden, apart} {
			for _, nets := range [][2][][2]int{{good, net}, {net, good}} {
				if word, ok, e := sofic.Same(nets[0], nets[1]); word != "" || ok || e != api.ErrSofic {
					t.Error(len(net), word, ok, e)
				}
			}
		}
	}
}

// TestZeroNextToErrors: R2, nets with other arguments that are not right, and calls that return false. The word of Same is next to false.
func TestZeroNextToErrors(t *testing.T) {
	for _, net := range someNets(4) {
		for _, f := range calls {
			for i, l := range someNumbers() {
				word := []string{"", "abba", "ac", strings.Repeat("a", 101)}[i%4]
				got, e := f.do(net, golden, word, l)
				mustBeZero := e != api.OK || f.name != "Same" && slices.Contains(got, any(false))
				if mustBeZero && !areZero(got) {
					t.Error(f.name, net, word, l, got, e)
				}
				if !slices.Contains([]api.Errno{api.OK, api.ErrArg, api.ErrState}, e) {
					t.Error(f.name, net, word, l, e)
				}
			}
		}
	}
}

// room is how many items behind the end of a net are filled.
const room = 6

// guarded is a copy of the net with room behind it that is filled.
func guarded(net [][2]int, fill int) [][2]int {
	return append(slices.Clone(net), slices.Repeat([][2]int{{fill, fill}}, room)...)[:len(net)]
}

// spoil overwrites all that is in results.
func spoil(results []any) {
	for _, x := range results {
		switch l := x.(type) {
		case []int:
			for i := range l[:cap(l)] {
				l[:cap(l)][i] = -99
			}
		case []string:
			for i := range l[:cap(l)] {
				l[:cap(l)][i] = "spoilt"
			}
		case [][2]int:
			for i := range l[:cap(l)] {
				l[:cap(l)][i] = [2]int{-99, -99}
			}
		}
	}
}

// TestMemory: R4 and R7.
func TestMemory(t *testing.T) {
	for _, net := range someNets(4) {
		for _, fill := range []int{-77, -1, 0, 1} {
			for _, f := range calls {
				for _, l := range [][2]int{{0, 0}, {1, 0}, {3, 2}} {
					one, two := guarded(net, fill), guarded(net, fill)
					got, e := f.do(one, two, "ab", l)
					said := fmt.Sprint(got, e)
					spoil(got)
					want := guarded(net, fill)
					want = want[:len(net)+room]
					if !slices.Equal(one[:len(net)+room], want) || !slices.Equal(two[:len(net)+room], want) {
						t.Error(f.name, net, l, one, two)
					}
					again, e := f.do(one, two, "ab", l)
					if fmt.Sprint(again, e) != said {
						t.Error(f.name, net, l, said, again, e)
					}
				}
			}
		}
	}
}

// TestSameNet: R4, a net that is both arguments.
func TestSameNet(t *testing.T) {
	for _, net := range someNets(4) {
		if word, ok, e := sofic.Same(net, net); word != "" || !ok || e != api.OK {
			t.Error(net, word, ok, e)
		}
	}
}

// TestAgain: R7, the results of calls that are done again and again.
func TestAgain(t *testing.T) {
	for i, net := range someNets(4) {
		for _, f := range calls {
			first, e := f.do(net, golden, "abab", [2]int{i % 9, 0})
			for range 3 {
				again, other := f.do(net, golden, "abab", [2]int{i % 9, 0})
				if e != other || !reflect.DeepEqual(first, again) {
					t.Error(f.name, net, first, e, again, other)
				}
			}
		}
	}
}

// TestEveryCallEnds: P1, with tables, texts and numbers that make no sense.
func TestEveryCallEnds(t *testing.T) {
	tables := append([][][2]int{{{0, 0}}, golden, even, apart, {{1, 1}, {2, 2}, {3, 3}, {4, 4}, {0, 0}}}, noNets...)
	extremes := []int{math.MinInt, -1, 0, 1, 4, 5, 10, 11, math.MaxInt}
	for _, a := range tables {
		for _, b := range tables {
			sofic.Same(a, b)
		}
		for _, f := range calls {
			for _, word := range append(slices.Clone(wordless), "", "a", "b", strings.Repeat("ab", 50)) {
				f.do(a, a, word, [2]int{})
			}
			for _, one := range extremes {
				for _, other := range extremes {
					f.do(a, a, "", [2]int{one, other})
				}
			}
		}
	}
}
