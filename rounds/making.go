package rounds

import (
	"iter"
	"slices"
)

// turning is the schedule of n teams of which the last one plays with each other one in turn, and those as far behind that one as ahead of it, on a circle, play with each other. A team on the circle is at home if it is an odd number of places ahead, and so by turns, but for the time when it plays with the last team, who is at home by turns too: there each has one break, unless it is in the first round.
func turning(n int) schedule {
	circle := n - 1
	s := make(schedule, circle)
	for middle := range circle {
		g := game{middle, n - 1}
		if middle%2 == 1 {
			g = g.turned()
		}
		s[middle] = round{g}
		for places := 1; places < n/2; places++ {
			g := game{(middle + places) % circle, (middle - places + circle) % circle}
			if places%2 == 0 {
				g = g.turned()
			}
			s[middle] = append(s[middle], g)
		}
	}
	return s
}

// stepping is the schedule of n teams, n 4 or 8, in which teams that differ by the round's step play with each other. Numbers are polynomials of x by their bits, modulo x^2 + x + 1 or x^3 + x + 1, and the steps are the powers of x. So a team is followed by those that differ from it by two steps, x^i + x^(i+1) = x^i (1 + x): any number but 0, once.
func stepping(n int) schedule {
	s := make(schedule, n-1)
	step := 1
	for i := range s {
		for team := range n {
			if other := team ^ step; team < other {
				s[i] = append(s[i], game{team, other})
			}
		}
		step *= 2
		if step >= n {
			step ^= n | 3
		}
	}
	return s
}

// pairings runs through all rounds of n teams, the lesser team of each game at home, the games rising.
func pairings(n int) iter.Seq[round] {
	return func(yield func(round) bool) {
		var games round
		// pair gives games to the teams that are not playing; it is whether yield wants more.
		var pair func(playing teams) bool
		pair = func(playing teams) bool {
			if playing.size() == n {
				return yield(slices.Clone(games))
			}
			home := 0
			for playing.has(home) {
				home++
			}
			for away := home + 1; away < n; away++ {
				if playing.has(away) {
					continue
				}
				games = append(games, game{home, away})
				if !pair(playing.with(home).with(away)) {
					return false
				}
				games = games[:len(games)-1]
			}
			return true
		}
		pair(0)
	}
}

// missing is the first game of team 0 that it has not had, if there is one.
func (m meetings) missing(n int) (game, bool) {
	for away := 1; away < n; away++ {
		if !m[0].has(away) {
			return game{0, away}, true
		}
	}
	return game{}, false
}

// completed is a schedule of n teams that begins with these rounds, if there is one.
func (s schedule) completed(n int) (schedule, bool) {
	whole := slices.Clone(s)
	var met meetings
	for _, g := range slices.Concat(s...) {
		met.meet(g)
	}
	// complete adds the rounds after those of which it is told who has met; it is whether there are such.
	var complete func(met meetings) bool
	complete = func(met meetings) bool {
		missing, ok := met.missing(n)
		if !ok {
			return true
		}
	nextRound:
		for r := range pairings(n) {
			// The rounds that are added may be in any order: team 0 has its games with the others from the least on.
			if r[0] != missing {
				continue
			}
			now := met
			for _, g := range r {
				if !now.meet(g) {
					continue nextRound
				}
			}
			whole = append(whole, r)
			if complete(now) {
				return true
			}
			whole = whole[:len(whole)-1]
		}
		return false
	}
	if !complete(met) {
		return nil, false
	}
	return whole, true
}
