package cycles_test

import (
	"slices"
	"testing"

	"girouette/api"
	"girouette/cycles"
)

// checkLoops compares Loops, Loop and IsLoop with all lists of m intervals.
func checkLoops(t *testing.T, p []int, m int) {
	t.Helper()
	var many int64
	var first []int
	eachList(len(p)-1, m, func(list []int) {
		is := isLoop(p, list)
		if got, e := cycles.IsLoop(p, list); got != is || e != api.OK {
			t.Error(p, list, got, e)
		}
		if is {
			many++
		}
		if is && first == nil && isPlain(list) {
			first = slices.Clone(list)
		}
	})
	if got, e := cycles.Loops(p, m); got != many || e != api.OK {
		t.Error(p, m, got, e, many)
	}
	if got, ok, e := cycles.Loop(p, m); !slices.Equal(got, first) || ok != (first != nil) || e != api.OK {
		t.Error(p, m, got, ok, e, first)
	}
}

// TestLoopsAll: P5.2, all lists of up to 12 intervals of two numbers, 10 of three, 8 of four, 6 of five, and less of more.
func TestLoopsAll(t *testing.T) {
	for n, most := range []int{2: 12, 3: 12, 4: 9, 5: 6, 6: 5, 7: 4, 8: 4} {
		for i, p := range cyclesOf(n) {
			if n > 5 && i%(n*(n-4)*3) != 0 {
				continue
			}
			for m := 1; m <= most; m++ {
				checkLoops(t, p, m)
			}
		}
	}
}

// TestLoopsCounted: P5.2 and P5.7, the numbers of loops of all lengths are those of the diagonals of powers, and Loop returns one just where plain ones are left.
func TestLoopsCounted(t *testing.T) {
	for _, p := range someCycles() {
		all, plain := counts(p), plainCounts(p)
		for m := 1; m <= 12; m++ {
			if got, e := cycles.Loops(p, m); got != all[m] || e != api.OK {
				t.Error(p, m, got, e, all[m])
			}
			loop, ok, e := cycles.Loop(p, m)
			if ok != (plain[m] > 0) || e != api.OK {
				t.Error(p, m, loop, ok, e, plain[m])
			}
			if ok && (len(loop) != m || !isLoop(p, loop) || !isPlain(loop)) || !ok && len(loop) > 0 {
				t.Error(p, m, loop, ok)
			}
		}
	}
}

// firstPlain looks for the first plain loop that begins with a list; most is how many lists it may look at.
func firstPlain(p, begin []int, m int, most *int) []int {
	*most--
	if len(begin) == m {
		if isLoop(p, begin) && isPlain(begin) {
			return begin
		}
		return nil
	}
	for k := range len(p) - 1 {
		if *most < 0 {
			return nil
		}
		if len(begin) > 0 && !covers(p, begin[len(begin)-1], k) {
			continue
		}
		if loop := firstPlain(p, append(slices.Clone(begin), k), m, most); loop != nil {
			return loop
		}
	}
	return nil
}

// TestLoopIsFirst: P5.2, the first plain loops of greater lengths, where they are found soon.
func TestLoopIsFirst(t *testing.T) {
	found, given := 0, 0
	for i, p := range someCycles() {
		for m := 5; m <= 12; m++ {
			if len(p) > 5 && (i+m)%9 != 0 {
				continue
			}
			most := 20000
			want := firstPlain(p, nil, m, &most)
			if most < 0 {
				given++
				continue
			}
			found++
			if got, ok, e := cycles.Loop(p, m); !slices.Equal(got, want) || ok != (want != nil) || e != api.OK {
				t.Error(p, m, got, ok, e, want)
			}
		}
	}
	if found < 300 || given > found/3 {
		t.Error(found, given)
	}
}

func TestLengths(t *testing.T) {
	for _, m := range append(far, 0) {
		for _, p := range [][]int{{1, 0}, {1, 2, 0}, {2, 3, 1, 0}, {1, 2, 3, 4, 5, 6, 7, 0}} {
			if got, e := cycles.Loops(p, m); got != 0 || e != api.ErrArg {
				t.Error(p, m, got, e)
			}
			if got, ok, e := cycles.Loop(p, m); len(got) > 0 || ok || e != api.ErrArg {
				t.Error(p, m, got, ok, e)
			}
		}
		if got, e := cycles.Loops([]int{0, 1}, m); got != 0 || e != api.ErrCycle {
			t.Error(m, got, e)
		}
		if got, ok, e := cycles.Loop([]int{0, 1}, m); len(got) > 0 || ok || e != api.ErrCycle {
			t.Error(m, got, ok, e)
		}
	}
}

// TestIsLoop: P5.2, long loops, and lists that are none.
func TestIsLoop(t *testing.T) {
	for _, p := range someCycles() {
		for m := 1; m <= 12; m++ {
			loop, ok, _ := cycles.Loop(p, m)
			if !ok {
				continue
			}
			for i := range loop {
				turned := slices.Concat(loop[i:], loop[:i])
				if got, e := cycles.IsLoop(p, turned); !got || e != api.OK {
					t.Error(p, turned, got, e)
				}
				for k := -1; k < len(p); k++ {
					other := slices.Clone(loop)
					other[i] = k
					if got, e := cycles.IsLoop(p, other); got != isLoop(p, other) || e != api.OK {
						t.Error(p, other, got, e)
					}
				}
			}
			for times := 2; times <= 13; times++ {
				several := slices.Repeat(loop, times)
				if got, e := cycles.IsLoop(p, several); got != (len(several) <= 12) || e != api.OK {
					t.Error(p, several, got, e)
				}
			}
		}
	}
	for _, loop := range [][]int{nil, {}, {-1}, {2}, {3}, far, make([]int, 100000), slices.Repeat([]int{1}, 13), {0}, {0, 0}, {0, 1, 0}} {
		if got, e := cycles.IsLoop([]int{1, 2, 0}, loop); got || e != api.OK {
			t.Error(loop, got, e)
		}
	}
	for _, loop := range [][]int{{1}, {1, 1}, {0, 1}, {1, 0}, {0, 1, 1}, slices.Repeat([]int{1}, 12)} {
		if got, e := cycles.IsLoop([]int{1, 2, 0}, loop); !got || e != api.OK {
			t.Error(loop, got, e)
		}
	}
}

// TestPeriods: P5.2 and P5.6, all cycles.
func TestPeriods(t *testing.T) {
	for n := 2; n <= 8; n++ {
		for _, p := range cyclesOf(n) {
			plain := plainCounts(p)
			var want []int
			for m := 1; m <= 12; m++ {
				if plain[m] > 0 || m == n {
					want = append(want, m)
				}
			}
			got := periodsOf(t, p)
			if !slices.Equal(got, want) {
				t.Error(p, got, want)
			}
			for m := 1; m <= 12; m++ {
				if after, e := cycles.After(n, m); e != api.OK || after && !slices.Contains(got, m) {
					t.Error(p, m, got, e)
				}
			}
		}
	}
	for _, c := range []struct{ p, want []int }{
		{[]int{1, 0}, []int{1, 2}},
		{[]int{1, 2, 0}, []int{1, 2, 3, 4, 5, 6, 7, 8, 9, 10, 11, 12}},
		{[]int{2, 3, 1, 0}, []int{1, 2, 4}},
		{[]int{2, 4, 3, 1, 0}, []int{1, 2, 4, 5, 6, 7, 8, 9, 10, 11, 12}},
	} {
		if got := periodsOf(t, c.p); !slices.Equal(got, c.want) {
			t.Error(c, got)
		}
	}
}
