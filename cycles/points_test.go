package cycles_test

import (
	"math"
	"math/big"
	"slices"
	"testing"

	"girouette/api"
	"girouette/cycles"
)

// TestValue: P5.3.
func TestValue(t *testing.T) {
	for i, p := range someCycles() {
		for k, x := range somePoints(len(p)) {
			if len(p) > 4 && (i+k)%7 != 0 {
				continue
			}
			if got, e := cycles.Value(p, parts(x)); got != parts(value(p, x)) || e != api.OK {
				t.Error(p, x, got, e)
			}
		}
		for at, to := range p {
			if got, e := cycles.Value(p, [2]int64{int64(at), 1}); got != [2]int64{int64(to), 1} || e != api.OK {
				t.Error(p, at, got, e)
			}
		}
	}
}

// TestPeriod: P5.3.
func TestPeriod(t *testing.T) {
	met := map[int]int{}
	for i, p := range someCycles() {
		for k, x := range somePoints(len(p)) {
			if len(p) > 4 && (i+k)%7 != 0 {
				continue
			}
			want, at := 0, x
			for steps := 1; steps <= 24 && want == 0; steps++ {
				at = value(p, at)
				if at.Cmp(x) == 0 {
					want = steps
				}
			}
			met[want]++
			got, ok, e := cycles.Period(p, parts(x))
			if got != want || ok != (want > 0) || e != api.OK {
				t.Error(p, x, got, ok, e, want)
			}
		}
		for at := range p {
			if got, ok, e := cycles.Period(p, [2]int64{int64(at), 1}); got != len(p) || !ok || e != api.OK {
				t.Error(p, at, got, ok, e)
			}
		}
	}
	if len(met) < 10 {
		t.Error(met)
	}
}

// TestLongPeriods: P5.3, periods near to 24.
func TestLongPeriods(t *testing.T) {
	for _, c := range []struct {
		p    []int
		x    [2]int64
		want int
	}{
		{[]int{1, 2, 0}, [2]int64{4, 99}, 22},
		{[]int{1, 2, 0}, [2]int64{197, 99}, 23},
		{[]int{2, 4, 3, 1, 0}, [2]int64{2, 39}, 23},
		{[]int{1, 2, 0}, [2]int64{2, 257}, 24},
		{[]int{1, 2, 0}, [2]int64{661, 331}, 24},
		{[]int{2, 4, 3, 1, 0}, [2]int64{98, 99}, 24},
		{[]int{2, 4, 3, 1, 0}, [2]int64{2, 29}, 0}, // 25
		{[]int{1, 2, 0}, [2]int64{4, 189}, 0},      // 26
		{[]int{2, 4, 3, 1, 0}, [2]int64{2, 381}, 0},
		{[]int{1, 2, 0}, [2]int64{72, 73}, 0}, // 27
	} {
		if got, ok, e := cycles.Period(c.p, c.x); got != c.want || ok != (c.want > 0) || e != api.OK {
			t.Error(c, got, ok, e)
		}
	}
}

// checkFollow: what Follow returns of a loop follows it, and comes back.
func checkFollow(t *testing.T, p, loop []int) {
	t.Helper()
	got, e := cycles.Follow(p, loop)
	if e != api.OK || got[1] < 1 || got[1] > 1_000_000 {
		t.Error(p, loop, got, e)
		return
	}
	x := big.NewRat(got[0], got[1])
	if parts(x) != got {
		t.Error(p, loop, got)
	}
	at := x
	for _, i := range loop {
		if at.Cmp(big.NewRat(int64(i), 1)) < 0 || at.Cmp(big.NewRat(int64(i+1), 1)) > 0 {
			t.Error(p, loop, got, at, i)
			return
		}
		at = value(p, at)
	}
	if at.Cmp(x) != 0 {
		t.Error(p, loop, got, at)
	}
	// P5.7
	period, ok, e := cycles.Period(p, got)
	if !ok || e != api.OK || len(loop)%period != 0 {
		t.Error(p, loop, got, period, ok, e)
	}
}

// TestFollow: P5.3 and P5.7, all loops of up to six intervals of cycles of up to four numbers, and some of more.
func TestFollow(t *testing.T) {
	for n, most := range []int{2: 6, 3: 6, 4: 6, 5: 6, 6: 5, 7: 4, 8: 4} {
		for i, p := range cyclesOf(n) {
			if n > 5 && i%(n*(n-4)) != 0 {
				continue
			}
			for m := 1; m <= most; m++ {
				eachList(n-1, m, func(loop []int) {
					if isLoop(p, loop) {
						checkFollow(t, p, loop)
					} else if got, e := cycles.Follow(p, loop); got != [2]int64{} || e != api.ErrArg {
						t.Error(p, loop, got, e)
					}
				})
			}
		}
	}
}

// walk is a list of intervals, each of which covers the next one, that a number tells.
func walk(p []int, start, m, number int) []int {
	loop := []int{start}
	for len(loop) < m {
		var next []int
		for k := range len(p) - 1 {
			if covers(p, loop[len(loop)-1], k) {
				next = append(next, k)
			}
		}
		loop = append(loop, next[number%len(next)])
		number = number*5/3 + 1
	}
	return loop
}

// TestFollowLong: P5.3, loops of six intervals of cycles of six to eight numbers.
func TestFollowLong(t *testing.T) {
	many, great := 0, int64(0)
	for n := 6; n <= 8; n++ {
		for i, p := range cyclesOf(n) {
			for start := range n - 1 {
				loop := walk(p, start, 6, i)
				if !isLoop(p, loop) {
					continue
				}
				many++
				checkFollow(t, p, loop)
				got, _ := cycles.Follow(p, loop)
				great = max(great, got[1])
			}
		}
	}
	if many < 5000 || great < 1000 {
		t.Error(many, great)
	}
}

// TestFollowSteepest: P5.3, loops that stay, or stay for long, where the map is steepest.
func TestFollowSteepest(t *testing.T) {
	great := int64(0)
	for _, p := range cyclesOf(8) {
		for i := range 7 {
			if max(p[i], p[i+1])-min(p[i], p[i+1]) < 7 {
				continue
			}
			for m := 1; m <= 6; m++ {
				for k := range 7 {
					loop := slices.Repeat([]int{i}, m)
					loop[m-1] = k
					if isLoop(p, loop) {
						checkFollow(t, p, loop)
						got, _ := cycles.Follow(p, loop)
						great = max(great, got[1])
					}
				}
			}
		}
	}
	if great < 90000 {
		t.Error(great)
	}
}

// TestFollowSeveral: loops that each point of an interval follows.
func TestFollowSeveral(t *testing.T) {
	checkFollow(t, []int{1, 0}, []int{0, 0})
	checkFollow(t, []int{1, 0}, []int{0, 0, 0, 0})
	checkFollow(t, []int{2, 3, 1, 0}, []int{0, 2, 0, 2})
	for _, c := range []struct {
		p, loop []int
		want    [2]int64
	}{
		{[]int{1, 2, 0}, []int{0, 1}, [2]int64{2, 3}},
		{[]int{1, 2, 0}, []int{1, 0}, [2]int64{5, 3}},
		{[]int{1, 2, 0}, []int{1}, [2]int64{4, 3}},
		{[]int{1, 2, 0}, []int{1, 1, 1, 1}, [2]int64{4, 3}},
		{[]int{1, 2, 0}, []int{0, 1, 1}, [2]int64{0, 1}},
		{[]int{1, 0}, []int{0}, [2]int64{1, 2}},
	} {
		if got, e := cycles.Follow(c.p, c.loop); got != c.want || e != api.OK {
			t.Error(c, got, e)
		}
	}
}

func TestFollowErrors(t *testing.T) {
	for _, loop := range [][]int{nil, {}, {0}, {-1}, {2}, {0, 0}, {0, 1, 0}, far, slices.Repeat([]int{1}, 7), slices.Repeat([]int{1}, 12), slices.Repeat([]int{1}, 13), make([]int, 100000), {1, 1, 1, 1, 1, 2}} {
		if got, e := cycles.Follow([]int{1, 2, 0}, loop); got != [2]int64{} || e != api.ErrArg {
			t.Error(loop, got, e)
		}
	}
	for _, loop := range [][]int{nil, {0}, {1}, {0, 1}, far} {
		if got, e := cycles.Follow([]int{1, 0, 2}, loop); got != [2]int64{} || e != api.ErrCycle {
			t.Error(loop, got, e)
		}
	}
	checkFollow(t, []int{1, 2, 0}, slices.Repeat([]int{1}, 6))
}

// TestPointErrors: P5.3, pairs that are not fractions in lowest terms from 0 to n - 1.
func TestPointErrors(t *testing.T) {
	bad := [][2]int64{
		{0, 0}, {1, 0}, {0, -1}, {1, -1}, {-1, -1}, {-1, 1}, {-1, 2}, {0, 2}, {2, 2}, {2, 4}, {3, 3}, {4, 2}, {6, 4}, {1, -2}, {-1, -2},
		{3, 1}, {5, 2}, {2000001, 1000000}, {1, 1000001}, {1000001, 1000002}, {500000, 1000000}, {0, 1000000}, {1000000, 1000000},
		{math.MinInt64, 1}, {math.MaxInt64, 1}, {1, math.MaxInt64}, {1, math.MinInt64}, {math.MinInt64, math.MinInt64},
		{math.MaxInt64, math.MaxInt64}, {math.MinInt64, -1}, {math.MaxInt64, 1000000}, {math.MinInt64, 999999}, {1 << 32, 1}, {1 << 62, 3},
	}
	for _, x := range bad {
		if got, e := cycles.Value([]int{1, 2, 0}, x); got != [2]int64{} || e != api.ErrArg {
			t.Error(x, got, e)
		}
		if got, ok, e := cycles.Period([]int{1, 2, 0}, x); got != 0 || ok || e != api.ErrArg {
			t.Error(x, got, ok, e)
		}
		if got, e := cycles.Value([]int{1, 2, 3}, x); got != [2]int64{} || e != api.ErrCycle {
			t.Error(x, got, e)
		}
		if got, ok, e := cycles.Period([]int{1, 2, 3}, x); got != 0 || ok || e != api.ErrCycle {
			t.Error(x, got, ok, e)
		}
	}
	for _, x := range [][2]int64{{0, 1}, {2, 1}, {1, 1000000}, {1999999, 1000000}, {1999997, 999999}} {
		if _, e := cycles.Value([]int{1, 2, 0}, x); e != api.OK {
			t.Error(x, e)
		}
		if _, _, e := cycles.Period([]int{1, 2, 0}, x); e != api.OK {
			t.Error(x, e)
		}
	}
}

func TestPointExamples(t *testing.T) {
	for _, c := range []struct {
		x    [2]int64
		want int
	}{{[2]int64{2, 3}, 2}, {[2]int64{4, 3}, 1}, {[2]int64{0, 1}, 3}, {[2]int64{5, 3}, 2}, {[2]int64{1, 1000}, 0}, {[2]int64{1, 2}, 0}} {
		if got, ok, e := cycles.Period([]int{1, 2, 0}, c.x); got != c.want || ok != (c.want > 0) || e != api.OK {
			t.Error(c, got, ok, e)
		}
	}
	for _, c := range [][2][2]int64{{{3, 2}, {1, 1}}, {{2, 1}, {0, 1}}, {{1, 2}, {3, 2}}, {{5, 3}, {2, 3}}, {{7, 6}, {5, 3}}} {
		if got, e := cycles.Value([]int{1, 2, 0}, c[0]); got != c[1] || e != api.OK {
			t.Error(c, got, e)
		}
	}
}
