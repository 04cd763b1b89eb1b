package shifts_test

import (
	"math"
	"slices"
	"testing"

	"girouette/api"
	"girouette/shifts"
)

// eachShare calls do for all lists of numbers from 0 to those of ways, but the two that are all 0 and all that there are.
func eachShare(ways []int, do func(u []int)) {
	u := make([]int, len(ways))
	for {
		place := 0
		for place < len(u) && u[place] == ways[place] {
			u[place] = 0
			place++
		}
		if place == len(u) {
			return
		}
		u[place]++
		if !slices.Equal(u, ways) {
			do(u)
		}
	}
}

// split is the definition of a split.
func split(a [][]int, s int, u []int) [][]int {
	b := cloned(a)
	b[s] = slices.Clone(u)
	given := slices.Clone(a[s])
	for j := range given {
		given[j] -= u[j]
	}
	b = append(b, given)
	for i := range b {
		b[i] = append(b[i], b[i][s])
	}
	return b
}

// checkSame is whether two matrices have the same Rounds, Fixed, Torsion and Sign.
func checkSame(t *testing.T, a, b [][]int) {
	t.Helper()
	one, oneTorsion, oneSign := lists(t, a)
	other, otherTorsion, otherSign := lists(t, b)
	if !slices.Equal(one, other) || !slices.Equal(oneTorsion, otherTorsion) || oneSign != otherSign {
		t.Error(a, b, one, other, oneTorsion, otherTorsion)
	}
	for m := 1; m <= 10; m++ {
		if rounds(t, a, m) != rounds(t, b, m) {
			t.Error(a, b, m)
		}
	}
}

// checkSplit compares Split with its definition, and what is kept.
func checkSplit(t *testing.T, a [][]int, s int, u []int) {
	t.Helper()
	b, e := shifts.Split(a, s, u)
	if len(a) == 5 {
		if len(b) > 0 || e != api.ErrLarge {
			t.Error(a, s, u, b, e)
		}
		return
	}
	if e != api.OK || !same(b, split(a, s, u)) || shifts.Check(b) != api.OK {
		t.Error(a, s, u, b, e)
		return
	}
	if back, e := shifts.Merge(b, s, len(a)); e != api.OK || !same(back, a) {
		t.Error(a, s, u, b, back, e)
	}
	checkSame(t, a, b)
}

// TestSplit: P6.5 and P6.7, all splits of matrices with few ways, and some of others.
func TestSplit(t *testing.T) {
	for _, a := range someMatrices() {
		for s, ways := range a {
			many := 0
			eachShare(ways, func(u []int) {
				many++
				if many < 4 || many%1999 == 0 || many%61 == 0 && many < 700 {
					checkSplit(t, a, s, u)
				}
			})
		}
	}
	eachMatrix(2, 2, func(a [][]int) {
		for s, ways := range a {
			eachShare(ways, func(u []int) { checkSplit(t, a, s, u) })
		}
	})
}

// TestSplitErrors: P6.5, R1 and R9.
func TestSplitErrors(t *testing.T) {
	five := filled(5, 5, 9, 1)
	five[0], five[1] = []int{1, 0, 0, 0, 0}, []int{0, 0, 0, 0, 0}
	for _, a := range [][][]int{{{0}}, {{1}}, {{9}}, golden, {{2, 3}, {0, 1}}, filled(4, 4, 9, 1), five} {
		k := len(a)
		for _, no := range append([]int{k, k + 1}, far...) {
			for _, u := range [][]int{nil, a[0], make([]int, k), append([]int{1}, make([]int, k-1)...)} {
				if got, e := shifts.Split(a, no, u); len(got) > 0 || e != api.ErrArg {
					t.Error(a, no, u, got, e)
				}
			}
		}
		for s, ways := range a {
			lists := [][]int{nil, make([]int, k), ways, ways[:k-1], slices.Concat(ways, []int{0}), make([]int, k+1), make([]int, 100000)}
			for j, many := range ways {
				for _, no := range []int{-1, many + 1, 10, math.MinInt, math.MaxInt, 1 << 32, -1 << 32} {
					u := make([]int, k)
					u[j] = no
					lists = append(lists, u)
					u = slices.Clone(ways)
					u[j] = no
					lists = append(lists, u)
				}
			}
			for _, u := range lists {
				if got, e := shifts.Split(a, s, u); len(got) > 0 || e != api.ErrArg {
					t.Error(a, s, u, got, e)
				}
			}
		}
	}
	// Five states, with a list that is right.
	if got, e := shifts.Split(all(5, 1), 4, []int{0, 0, 0, 0, 1}); len(got) > 0 || e != api.ErrLarge {
		t.Error(got, e)
	}
}

// merge is the definition of a merge.
func merge(a [][]int, s, t int) ([][]int, api.Errno) {
	for i := range a {
		if a[i][s] != a[i][t] {
			return nil, api.ErrNone
		}
	}
	b := cloned(a)
	for j := range b {
		b[s][j] += a[t][j]
	}
	if slices.Max(b[s]) > 9 {
		return nil, api.ErrLarge
	}
	b = slices.Delete(b, t, t+1)
	for i := range b {
		b[i] = slices.Delete(b[i], t, t+1)
	}
	return b, api.OK
}

// checkMerges compares Merge with its definition for all pairs of states.
func checkMerges(t *testing.T, a [][]int) {
	t.Helper()
	for s := range a {
		for other := range a {
			want, wantError := [][]int(nil), api.ErrArg
			if s < other {
				want, wantError = merge(a, s, other)
			}
			got, e := shifts.Merge(a, s, other)
			if !same(got, want) || e != wantError {
				t.Error(a, s, other, got, e, want, wantError)
			}
			if e == api.OK {
				checkSame(t, a, got)
			}
		}
	}
}

// TestMerge: P6.5, all small matrices, and others that have equal columns.
func TestMerge(t *testing.T) {
	eachMatrix(2, 5, func(a [][]int) { checkMerges(t, a) })
	eachMatrix(3, 1, func(a [][]int) { checkMerges(t, a) })
	for i, a := range someMatrices() {
		checkMerges(t, a)
		k := len(a)
		if k < 2 {
			continue
		}
		s, other := i%k, (i/k)%k
		for from := range a {
			a[from][s] = a[from][other]
		}
		checkMerges(t, a)
		// Few ways from both states, so that the sums are not too great.
		for to := range a {
			a[s][to], a[other][to] = a[s][to]%5, a[other][to]%6
		}
		checkMerges(t, a)
	}
}

// TestMergeErrors: P6.5, R1 and R9.
func TestMergeErrors(t *testing.T) {
	for _, a := range [][][]int{{{0}}, {{9}}, golden, all(2, 9), all(5, 1), all(5, 9)} {
		k := len(a)
		for _, no := range append([]int{k, k + 1}, far...) {
			for _, two := range [][2]int{{no, 0}, {0, no}, {no, k - 1}, {k - 1, no}, {no, no}, {no, no + 1}, {no - 1, no}} {
				if two[0] == k-2 && two[1] == k-1 {
					continue
				}
				if got, e := shifts.Merge(a, two[0], two[1]); len(got) > 0 || e != api.ErrArg {
					t.Error(a, two, got, e)
				}
			}
		}
	}
	for _, c := range []struct {
		a    [][]int
		s, t int
		want api.Errno
	}{
		{[][]int{{9, 9}, {0, 0}}, 0, 1, api.OK},
		{[][]int{{5, 5}, {4, 4}}, 0, 1, api.OK},
		{[][]int{{5, 5}, {5, 5}}, 0, 1, api.ErrLarge},
		{[][]int{{1, 1, 9}, {1, 1, 1}, {9, 9, 9}}, 0, 1, api.ErrLarge},
		{[][]int{{1, 1, 9}, {1, 1, 0}, {9, 9, 9}}, 0, 1, api.OK},
		{[][]int{{9, 9, 9}, {9, 9, 9}, {9, 9, 8}}, 0, 2, api.ErrNone},
		{[][]int{{9, 9, 9}, {9, 9, 9}, {9, 9, 8}}, 0, 1, api.ErrLarge},
	} {
		if _, e := shifts.Merge(c.a, c.s, c.t); e != c.want {
			t.Error(c, e)
		}
	}
}

// checkBoth compares Both with its definition.
func checkBoth(t *testing.T, r, s [][]int) {
	t.Helper()
	var want [2][][]int
	large := false
	for i, two := range [][2][][]int{{r, s}, {s, r}} {
		for _, l := range product(bigs(two[0]), bigs(two[1])) {
			var numbers []int
			for _, number := range l {
				numbers = append(numbers, int(number.Int64()))
			}
			large = large || slices.Max(numbers) > 9
			want[i] = append(want[i], numbers)
		}
	}
	wantError := api.OK
	if large {
		want, wantError = [2][][]int{}, api.ErrLarge
	}
	got, e := shifts.Both(r, s)
	if !same(got[0], want[0]) || !same(got[1], want[1]) || e != wantError {
		t.Error(r, s, got, e, want)
	}
	if e == api.OK {
		checkSame(t, got[0], got[1])
	}
}

// TestBoth: P6.5 and P6.7, tables of all sizes.
func TestBoth(t *testing.T) {
	for height := 1; height <= 5; height++ {
		for width := 1; width <= 5; width++ {
			for seed := range uint64(12) {
				for most := 1; most <= 4; most++ {
					checkBoth(t, filled(height, width, most, seed), filled(width, height, most, seed+99))
					checkBoth(t, filled(height, width, most, seed), filled(width, height, 1, seed+99))
				}
			}
			checkBoth(t, zeros(height, width), filled(width, height, 4, 1))
		}
	}
	for one := range 5 {
		for other := range 5 {
			checkBoth(t, [][]int{{one}}, [][]int{{other}})
		}
	}
	// Too great a number in one of the products alone.
	checkBoth(t, [][]int{{2, 2, 2, 2}}, [][]int{{2}, {1}, {1}, {1}})
	checkBoth(t, [][]int{{2}, {1}, {1}, {1}}, [][]int{{2, 2, 2, 2}})
	checkBoth(t, [][]int{{2, 2, 2, 2}}, [][]int{{1}, {1}, {1}, {1}})
	checkBoth(t, [][]int{{3, 0, 0, 3}}, [][]int{{1}, {3}, {3}, {2}})
}

// TestBothErrors: P6.5 and R9.
func TestBothErrors(t *testing.T) {
	right := [][2][][]int{
		{{{1}}, {{1}}}, {{{4}}, {{4}}}, {{{1, 1}}, {{1}, {2}}}, {{{1}, {2}}, {{1, 1}}}, {zeros(5, 5), zeros(5, 5)}, {zeros(5, 1), zeros(1, 5)}, {zeros(2, 3), zeros(3, 2)},
	}
	check := func(r, s [][]int) {
		t.Helper()
		if got, e := shifts.Both(r, s); len(got[0]) > 0 || len(got[1]) > 0 || e != api.ErrArg {
			t.Error(r, s, got, e)
		}
	}
	for _, two := range right {
		for which := range 2 {
			for i, l := range two[which] {
				for j := range l {
					for _, no := range append([]int{5, 6, 9, 10}, far...) {
						wrong := [2][][]int{cloned(two[0]), cloned(two[1])}
						wrong[which][i][j] = no
						check(wrong[0], wrong[1])
					}
				}
				for _, row := range [][]int{nil, l[1:], slices.Concat(l, []int{0})} {
					wrong := [2][][]int{cloned(two[0]), cloned(two[1])}
					wrong[which][i] = row
					if len(two[which]) == 1 && len(row) == len(two[1-which]) {
						continue
					}
					check(wrong[0], wrong[1])
				}
			}
			for _, table := range [][][]int{nil, {}, {{}}, {nil}, {{}, {}}, zeros(6, 6), zeros(1, 6), zeros(6, 1), make([][]int, 100000), {make([]int, 100000)}} {
				wrong := two
				wrong[which] = table
				check(wrong[0], wrong[1])
			}
		}
	}
	for height := range 8 {
		for width := range 8 {
			for rows := range 8 {
				for columns := range 8 {
					want := api.ErrArg
					if height == columns && width == rows && min(height, width) > 0 && max(height, width) < 6 {
						want = api.OK
					}
					if _, e := shifts.Both(zeros(height, width), zeros(rows, columns)); e != want {
						t.Error(height, width, rows, columns, e)
					}
				}
			}
		}
	}
}
