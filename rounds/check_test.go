package rounds_test

import (
	"math"
	"slices"
	"testing"

	"girouette/api"
	"girouette/rounds"
)

// checkCheck compares Check with the definition.
func checkCheck(t *testing.T, p plan) {
	t.Helper()
	want := api.ErrRounds
	if p.isSchedule() {
		want = api.OK
	}
	if e := rounds.Check(p.n, p.list); e != want {
		t.Error(p, e, want)
	}
}

// roundsOf is all rounds of n teams with the games in all orders of one game at the first place, at all homes.
func roundsOf(n int) [][][2]int {
	var l [][][2]int
	for _, games := range pairingsOf(upTo(n)) {
		for set := range 1 << (n / 2) {
			p := plan{n, [][][2]int{games}}.turned(set)
			l = append(l, p.list[0], p.backwards().list[0])
		}
	}
	return l
}

// TestCheckAll: P4.1, all lists of up to three rounds of four teams, and some of four.
func TestCheckAll(t *testing.T) {
	all := roundsOf(4)
	checkCheck(t, plan{4, nil})
	for i, a := range all {
		checkCheck(t, plan{4, [][][2]int{a}})
		for k, b := range all {
			checkCheck(t, plan{4, [][][2]int{a, b}})
			for _, c := range all {
				checkCheck(t, plan{4, [][][2]int{a, b, c}})
				if i%5 == 0 && k%5 == 0 {
					checkCheck(t, plan{4, [][][2]int{a, b, c, all[(i+k)%len(all)]}})
				}
			}
		}
	}
}

// TestCheckTwoTeams: all lists of up to two rounds with up to two games of the numbers from -1 to 2.
func TestCheckTwoTeams(t *testing.T) {
	var games [][2]int
	for a := -1; a <= 2; a++ {
		for b := -1; b <= 2; b++ {
			games = append(games, [2]int{a, b})
		}
	}
	all := [][][2]int{nil}
	for _, g := range games {
		all = append(all, [][2]int{g})
		for _, h := range games {
			all = append(all, [][2]int{g, h})
		}
	}
	checkCheck(t, plan{2, nil})
	for _, a := range all {
		checkCheck(t, plan{2, [][][2]int{a}})
		for _, b := range all[:20] {
			checkCheck(t, plan{2, [][][2]int{a, b}})
		}
	}
}

// TestCheckChanged: schedules in which one number is another one, or a game or a round is missing, or is there twice.
func TestCheckChanged(t *testing.T) {
	for _, n := range []int{2, 4, 6, 8, 10} {
		p := made(t, n, rounds.Make)
		checkCheck(t, p)
		for i, games := range p.list {
			for k := range games {
				for side := range 2 {
					for _, number := range append(upTo(n+1), far...) {
						q := p.turned(0)
						q.list[i][k][side] = number
						checkCheck(t, q)
					}
				}
				q := p.turned(0)
				q.list[i] = slices.Delete(q.list[i], k, k+1)
				checkCheck(t, q)
				q = p.turned(0)
				q.list[i] = slices.Insert(q.list[i], 0, q.list[i][k])
				checkCheck(t, q)
				q = p.turned(0)
				q.list[i][0] = q.list[i][k]
				checkCheck(t, q)
			}
			for _, m := range []int{-2, 2} {
				if e := rounds.Check(n+m, p.list); e == api.OK {
					t.Error(n, m)
				}
			}
			checkCheck(t, plan{n, slices.Delete(slices.Clone(p.list), i, i+1)})
			checkCheck(t, plan{n, slices.Insert(slices.Clone(p.list), 0, games)})
			checkCheck(t, plan{n, slices.Insert(slices.Clone(p.list[:n-2]), 0, games)})
		}
	}
	eachSchedule(t, func(p plan) {
		if e := rounds.Check(p.n, p.list); e != api.OK || !p.isSchedule() {
			t.Error(p, e)
		}
	})
}

func TestNumbersOfTeams(t *testing.T) {
	for n := -3; n <= 14; n++ {
		good := n == 2 || n == 4 || n == 6 || n == 8 || n == 10
		want, wantCheck := api.ErrArg, api.ErrArg
		if good {
			want, wantCheck = api.OK, api.ErrRounds
		}
		if _, e := rounds.Make(n); e != want {
			t.Error(n, e)
		}
		for _, list := range [][][][2]int{nil, {{}}, {{{0, 0}}}, {{{math.MinInt, math.MaxInt}}}} {
			if e := rounds.Check(n, list); e != wantCheck {
				t.Error(n, list, e)
			}
		}
	}
}

// TestOpponents: P4.1.
func TestOpponents(t *testing.T) {
	eachSchedule(t, func(p plan) {
		for team := range p.n {
			var want []int
			for round := range p.list {
				other, _ := p.opponent(round, team)
				want = append(want, other)
			}
			got, e := rounds.Opponents(p.n, p.list, team)
			if e != api.OK || !slices.Equal(got, want) {
				t.Error(p, team, got, e)
			}
		}
	})
	for _, team := range append(far, 4, 5, 10) {
		if got, e := rounds.Opponents(4, four.list, team); e != api.ErrArg || len(got) > 0 {
			t.Error(team, got, e)
		}
		if got, e := rounds.Opponents(4, four.list[:2], team); e != api.ErrRounds || len(got) > 0 {
			t.Error(team, got, e)
		}
	}
}

// checkRenamed compares Renamed with the definition.
func checkRenamed(t *testing.T, p plan, names []int) plan {
	t.Helper()
	want := p.turned(0)
	for _, games := range want.list {
		for k, g := range games {
			games[k] = [2]int{names[g[0]], names[g[1]]}
		}
	}
	got, e := rounds.Renamed(p.n, p.list, names)
	if e != api.OK || !same(got, want.list) || rounds.Check(p.n, got) != api.OK {
		t.Error(p, names, got, e)
	}
	return want
}

// TestRenamed: P4.1.
func TestRenamed(t *testing.T) {
	for _, n := range []int{2, 4, 6} {
		p := made(t, n, rounds.Make).turned(0x29)
		for _, names := range permutations(n) {
			checkRenamed(t, p, names)
		}
	}
	eachSchedule(t, func(p plan) {
		names := upTo(p.n)
		checkRenamed(t, p, names)
		names[0], names[p.n-1] = names[p.n-1], names[0]
		checkRenamed(t, p, names)
	})
	for _, names := range [][]int{
		nil, {0}, {0, 1, 2}, {0, 1, 2, 3, 4}, {0, 1, 2, 2}, {1, 1, 2, 3}, {1, 2, 3, 4}, {-1, 0, 1, 2}, {0, 1, 2, 3, 3},
		{0, 1, 2, math.MinInt}, {math.MaxInt, 1, 2, 3}, make([]int, 4), make([]int, 100000),
	} {
		if got, e := rounds.Renamed(4, four.list, names); e != api.ErrArg || len(got) > 0 {
			t.Error(names, got, e)
		}
		if got, e := rounds.Renamed(4, threes.list, names); e != api.ErrRounds || len(got) > 0 {
			t.Error(names, got, e)
		}
	}
}
