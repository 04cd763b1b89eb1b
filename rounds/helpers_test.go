package rounds_test

import (
	"math"
	"slices"
	"testing"

	"girouette/api"
	"girouette/rounds"
)

// plan is rounds of n teams: a schedule, a beginning, or neither.
type plan struct {
	n    int
	list [][][2]int
}

var (
	// far is numbers that are no teams, and no numbers of them.
	far = []int{math.MinInt, -2, -1, 11, 12, math.MaxInt}
	// four is the schedule of the chapter's examples, threes the beginning that is not to be completed.
	four   = plan{4, [][][2]int{{{0, 1}, {2, 3}}, {{2, 0}, {1, 3}}, {{0, 3}, {1, 2}}}}
	threes = plan{6, [][][2]int{{{0, 3}, {1, 4}, {2, 5}}, {{0, 4}, {1, 5}, {2, 3}}, {{0, 5}, {1, 3}, {2, 4}}}}
)

// pairingsOf is all ways to pair the teams.
func pairingsOf(teams []int) [][][2]int {
	if len(teams) == 0 {
		return [][][2]int{nil}
	}
	var l [][][2]int
	for i, other := range teams[1:] {
		rest := slices.Delete(slices.Clone(teams[1:]), i, i+1)
		for _, games := range pairingsOf(rest) {
			l = append(l, slices.Concat([][2]int{{teams[0], other}}, games))
		}
	}
	return l
}

// upTo is the numbers from 0 to n - 1.
func upTo(n int) []int {
	var l []int
	for i := range n {
		l = append(l, i)
	}
	return l
}

// shareGame is whether two teams have a game in both lists, at either home.
func shareGame(a, b [][2]int) bool {
	return slices.ContainsFunc(a, func(g [2]int) bool {
		return slices.Contains(b, g) || slices.Contains(b, [2]int{g[1], g[0]})
	})
}

// wholes is all schedules of n teams whose rounds are in the order of the opponents of team 0, lesser teams at home.
func wholes(n int) []plan {
	all := pairingsOf(upTo(n))
	var l []plan
	var add func(list [][][2]int)
	add = func(list [][][2]int) {
		if len(list) == n-1 {
			l = append(l, plan{n, slices.Clone(list)})
			return
		}
		for _, games := range all {
			met := slices.ContainsFunc(list, func(before [][2]int) bool { return shareGame(before, games) })
			if games[0][1] == len(list)+1 && !met {
				add(append(slices.Clone(list), games))
			}
		}
	}
	add(nil)
	return l
}

// permutations is all lists of the numbers from 0 to n - 1.
func permutations(n int) [][]int {
	if n == 0 {
		return [][]int{nil}
	}
	var l [][]int
	for _, p := range permutations(n - 1) {
		for i := range n {
			l = append(l, slices.Insert(slices.Clone(p), i, n-1))
		}
	}
	return l
}

// ordered is the plan with its rounds in another order.
func (p plan) ordered(order []int) plan {
	q := plan{n: p.n}
	for _, i := range order {
		q.list = append(q.list, p.list[i])
	}
	return q
}

// turned is the plan with those games at the other home of which the set has the bit, counted from the first one on.
func (p plan) turned(set int) plan {
	q := plan{n: p.n}
	for _, games := range p.list {
		var l [][2]int
		for _, g := range games {
			if set&1 == 1 {
				g = [2]int{g[1], g[0]}
			}
			set >>= 1
			l = append(l, g)
		}
		q.list = append(q.list, l)
	}
	return q
}

// backwards is the plan with the games of each round in the other order.
func (p plan) backwards() plan {
	q := plan{n: p.n}
	for _, games := range p.list {
		l := slices.Clone(games)
		slices.Reverse(l)
		q.list = append(q.list, l)
	}
	return q
}

// isRound, isBeginning and isSchedule are the definitions.
func isRound(n int, games [][2]int) bool {
	many := map[int]int{}
	for _, g := range games {
		many[g[0]]++
		many[g[1]]++
	}
	for team := range n {
		if many[team] != 1 {
			return false
		}
	}
	return len(many) == n && len(games) == n/2
}

func (p plan) isBeginning() bool {
	many := map[[2]int]int{}
	for _, games := range p.list {
		if !isRound(p.n, games) {
			return false
		}
		for _, g := range games {
			many[[2]int{min(g[0], g[1]), max(g[0], g[1])}]++
		}
	}
	for _, times := range many {
		if times > 1 {
			return false
		}
	}
	return len(p.list) < p.n
}

func (p plan) isSchedule() bool {
	for a := range p.n {
		for b := range a {
			if !slices.ContainsFunc(p.list, func(games [][2]int) bool { return shareGame(games, [][2]int{{a, b}}) }) {
				return false
			}
		}
	}
	return p.isBeginning() && len(p.list) == p.n-1
}

// opponent is the team that a team plays with in a round, and whether the team is at home.
func (p plan) opponent(round, team int) (int, bool) {
	for _, g := range p.list[round] {
		switch team {
		case g[0]:
			return g[1], true
		case g[1]:
			return g[0], false
		}
	}
	return -1, false
}

// breaks is the number of breaks by the definition.
func (p plan) breaks() int {
	many := 0
	for team := range p.n {
		for round := 1; round < len(p.list); round++ {
			_, before := p.opponent(round-1, team)
			if _, home := p.opponent(round, team); home == before {
				many++
			}
		}
	}
	return many
}

// same is whether the lists have the same elements, all the way down.
func same(a, b [][][2]int) bool {
	return slices.EqualFunc(a, b, func(x, y [][2]int) bool { return slices.Equal(x, y) })
}

// made is what a function without other arguments returns.
func made(t *testing.T, n int, make func(n int) ([][][2]int, api.Errno)) plan {
	t.Helper()
	l, e := make(n)
	p := plan{n, l}
	if e != api.OK || !p.isSchedule() {
		t.Fatal(p, e)
	}
	return p
}

// eachSchedule calls do for all schedules of 2 and 4 teams, some with the games of a round in another order, and for some of more teams.
func eachSchedule(t *testing.T, do func(p plan)) {
	for _, n := range []int{2, 4} {
		for _, whole := range wholes(n) {
			for _, order := range permutations(n - 1) {
				for set := range 1 << (n * (n - 1) / 2) {
					p := whole.ordered(order).turned(set)
					do(p)
					if set%7 == 0 {
						do(p.backwards())
					}
				}
			}
		}
	}
	set := 0
	for _, whole := range wholes(6) {
		for _, order := range permutations(5) {
			set = (set*29 + 11) % (1 << 15)
			do(whole.ordered(order).turned(set))
		}
	}
	for i, whole := range wholes(8) {
		if i%97 == 0 {
			order := permutations(7)[i%5040]
			do(whole.ordered(order).turned(i * i * 7919).backwards())
		}
	}
	for _, n := range []int{2, 4, 6, 8, 10} {
		p := made(t, n, rounds.Make)
		do(p)
		do(p.turned(0x55555))
		order := upTo(n - 1)
		slices.Reverse(order)
		do(p.ordered(order).backwards().turned(0x123456789))
		if n > 2 {
			order[0], order[1] = order[1], order[0]
			do(p.ordered(order))
		}
	}
	do(made(t, 4, rounds.Balanced))
	do(made(t, 8, rounds.Balanced))
	do(made(t, 4, rounds.Perfect))
	do(made(t, 6, rounds.Perfect))
	do(made(t, 8, rounds.Perfect))
}
