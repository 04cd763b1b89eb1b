package rounds_test

import (
	"slices"
	"testing"

	"girouette/api"
	"girouette/rounds"
)

// followNumbers is the follow numbers by the definition.
func followNumbers(p plan) [][]int {
	l := make([][]int, p.n)
	for i := range l {
		l[i] = make([]int, p.n)
		for k := range p.n {
			for j := range p.n {
				for round := range p.list {
					one, _ := p.opponent(round, j)
					next, _ := p.opponent((round+1)%len(p.list), j)
					if one == i && next == k {
						l[i][k]++
					}
				}
			}
		}
	}
	return l
}

// isBalanced is whether the numbers of any two different teams are 1.
func isBalanced(numbers [][]int) bool {
	for i, row := range numbers {
		for k, number := range row {
			if i != k && number != 1 {
				return false
			}
		}
	}
	return true
}

// checkFollow compares Follow and IsBalanced with the definitions, and with what P4.7 says.
func checkFollow(t *testing.T, p plan) bool {
	t.Helper()
	want := followNumbers(p)
	got, e := rounds.Follow(p.n, p.list)
	if e != api.OK || !slices.EqualFunc(got, want, func(a, b []int) bool { return slices.Equal(a, b) }) {
		t.Error("Follow", p, got, e, want)
		return false
	}
	balanced, e := rounds.IsBalanced(p.n, p.list)
	if e != api.OK || balanced != isBalanced(want) {
		t.Error("IsBalanced", p, balanced, e)
	}
	squares := 0
	for i := range p.n {
		from, to := 0, 0
		for k := range p.n {
			from += got[i][k]
			to += got[k][i]
			squares += got[i][k] * got[i][k]
		}
		if from != p.n-1 || to != p.n-1 || p.n > 2 && got[i][i] != 0 {
			t.Error(p, got)
		}
	}
	if p.n > 2 && (squares < p.n*(p.n-1) || balanced && squares != p.n*(p.n-1)) {
		t.Error(p, got, squares)
	}
	return balanced
}

// TestFollow: P4.3 and P4.7.
func TestFollow(t *testing.T) {
	many := map[bool]int{}
	eachSchedule(t, func(p plan) { many[checkFollow(t, p)]++ })
	if many[true] == 0 || many[false] == 0 {
		t.Error(many)
	}
	got, e := rounds.Follow(2, [][][2]int{{{0, 1}}})
	if e != api.OK || !slices.Equal(got[0], []int{1, 0}) || !slices.Equal(got[1], []int{0, 1}) {
		t.Error(got, e)
	}
	if balanced, e := rounds.IsBalanced(2, [][][2]int{{{0, 1}}}); balanced || e != api.OK {
		t.Error(balanced, e)
	}
}

// TestBalanced: P4.3, and P4.8 with some names.
func TestBalanced(t *testing.T) {
	for _, n := range []int{4, 8} {
		p := made(t, n, rounds.Balanced)
		if !checkFollow(t, p) {
			t.Error(p)
		}
		for i, names := range permutations(n) {
			if n == 4 || i%503 == 0 {
				q := checkRenamed(t, p, names)
				if !checkFollow(t, q) {
					t.Error(q)
				}
			}
		}
	}
	for _, n := range append(far, 0, 1, 2, 3, 5, 6, 7, 9, 10, 16) {
		if l, e := rounds.Balanced(n); e != api.ErrArg || len(l) > 0 {
			t.Error(n, l, e)
		}
	}
}

// ringsOf is the numbers of teams that are joined by games of either round.
func ringsOf(n int, a, b [][2]int) []int {
	group := upTo(n)
	for _, g := range slices.Concat(a, b) {
		from, to := group[g[0]], group[g[1]]
		for team := range n {
			if group[team] == from {
				group[team] = to
			}
		}
	}
	many := make([]int, n)
	for team := range n {
		many[group[team]]++
	}
	many = slices.DeleteFunc(many, func(x int) bool { return x == 0 })
	slices.Sort(many)
	return many
}

// checkRings compares Rings with the definition, and with what P4.8 says.
func checkRings(t *testing.T, n int, a, b [][2]int) {
	t.Helper()
	got, e := rounds.Rings(n, a, b)
	if e != api.OK || !slices.Equal(got, ringsOf(n, a, b)) {
		t.Error(n, a, b, got, e)
	}
	whole := 0
	for _, size := range got {
		whole += size
		if size%2 != 0 || size < 2 {
			t.Error(n, a, b, got)
		}
	}
	if whole != n {
		t.Error(n, a, b, got)
	}
}

// TestRings: P4.4 and P4.8, all two rounds of up to six teams, and some of more.
func TestRings(t *testing.T) {
	for _, n := range []int{2, 4} {
		for _, a := range roundsOf(n) {
			for _, b := range roundsOf(n) {
				checkRings(t, n, a, b)
			}
		}
	}
	for n, step := range map[int]int{6: 1, 8: 5, 10: 37} {
		all := pairingsOf(upTo(n))
		for i := 0; i < len(all); i += step {
			for k := 0; k < len(all); k += step {
				p := plan{n, [][][2]int{all[i], all[k]}}.turned(i*31 + k)
				checkRings(t, n, p.list[0], p.list[1])
				checkRings(t, n, p.list[0], p.backwards().list[1])
			}
		}
	}
	for _, c := range []struct {
		n    int
		a, b [][2]int
		want []int
	}{
		{4, [][2]int{{0, 1}, {2, 3}}, [][2]int{{0, 1}, {2, 3}}, []int{2, 2}},
		{4, [][2]int{{0, 1}, {2, 3}}, [][2]int{{3, 2}, {1, 0}}, []int{2, 2}},
		{4, [][2]int{{0, 1}, {2, 3}}, [][2]int{{0, 2}, {1, 3}}, []int{4}},
		{2, [][2]int{{0, 1}}, [][2]int{{1, 0}}, []int{2}},
		{6, [][2]int{{0, 1}, {2, 3}, {4, 5}}, [][2]int{{0, 2}, {1, 3}, {5, 4}}, []int{2, 4}},
		{6, [][2]int{{4, 5}, {2, 3}, {0, 1}}, [][2]int{{1, 2}, {3, 4}, {0, 5}}, []int{6}},
	} {
		if got, e := rounds.Rings(c.n, c.a, c.b); e != api.OK || !slices.Equal(got, c.want) {
			t.Error(c, got, e)
		}
	}
}

func TestRingsOfNoRounds(t *testing.T) {
	good := four.list[0]
	bad := [][][2]int{
		nil, {{0, 1}}, {{0, 1}, {2, 2}}, {{0, 1}, {1, 2}}, {{0, 1}, {2, 4}}, {{-1, 1}, {2, 3}}, {{0, 1}, {2, 3}, {0, 1}},
		{{0, 1}, {2, 3}, {4, 5}}, {{0, 1}, {0, 1}}, {{0, 0}, {1, 1}}, make([][2]int, 100000),
	}
	for _, l := range bad {
		for _, two := range [][2][][2]int{{good, l}, {l, good}, {l, l}} {
			if got, e := rounds.Rings(4, two[0], two[1]); e != api.ErrRounds || len(got) > 0 {
				t.Error(two, got, e)
			}
		}
		for _, n := range append(far, 0, 3, 5) {
			if got, e := rounds.Rings(n, l, good); e != api.ErrArg || len(got) > 0 {
				t.Error(n, l, got, e)
			}
		}
	}
	for _, n := range []int{2, 6, 8, 10} {
		if got, e := rounds.Rings(n, good, good); e != api.ErrRounds || len(got) > 0 {
			t.Error(n, got, e)
		}
	}
}

// checkPerfect compares IsPerfect with the definition.
func checkPerfect(t *testing.T, p plan) bool {
	t.Helper()
	want := true
	for i := range p.list {
		for k := range i {
			want = want && len(ringsOf(p.n, p.list[i], p.list[k])) == 1
		}
	}
	if got, e := rounds.IsPerfect(p.n, p.list); e != api.OK || got != want {
		t.Error(p, got, e, want)
	}
	return want
}

// TestIsPerfect: P4.4.
func TestIsPerfect(t *testing.T) {
	var many [11][2]int
	eachSchedule(t, func(p plan) {
		if checkPerfect(t, p) {
			many[p.n][1]++
		} else {
			many[p.n][0]++
		}
	})
	// All schedules of up to six teams are perfect, and some of eight.
	if many[2][0]+many[4][0]+many[6][0] > 0 || many[8][0] == 0 || many[8][1] == 0 || many[10][0] == 0 {
		t.Error(many)
	}
}

// TestPerfect: P4.4, and P4.8 with some names.
func TestPerfect(t *testing.T) {
	for _, n := range []int{4, 6, 8} {
		p := made(t, n, rounds.Perfect)
		if !checkPerfect(t, p) {
			t.Error(p)
		}
		for i, names := range permutations(n) {
			if n == 4 || i%101 == 0 {
				q := checkRenamed(t, p, names)
				if !checkPerfect(t, q) {
					t.Error(q)
				}
			}
		}
	}
	for _, n := range append(far, 0, 1, 2, 3, 5, 7, 9, 10) {
		if l, e := rounds.Perfect(n); e != api.ErrArg || len(l) > 0 {
			t.Error(n, l, e)
		}
	}
}
