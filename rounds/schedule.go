package rounds

import (
	"math/bits"
)

const (
	minTeams = 2
	maxTeams = 10
)

// teams is a set of teams: bit i is whether team i is in it.
type teams uint16

// has is whether the team is in the set.
func (t teams) has(team int) bool {
	return t>>team&1 == 1
}

// with is the set with one more team.
func (t teams) with(team int) teams {
	return t | 1<<team
}

// size is the number of teams in the set.
func (t teams) size() int {
	return bits.OnesCount16(uint16(t))
}

// game is played by two teams, at the home of one of them.
type game struct {
	home, away int
}

// turned is the game at the other home.
func (g game) turned() game {
	return game{g.away, g.home}
}

// round is games in which each team is once.
type round []game

// opponent is the team that a team plays with.
func (r round) opponent(team int) int {
	for _, g := range r {
		switch team {
		case g.home:
			return g.away
		case g.away:
			return g.home
		}
	}
	return team
}

// schedule is the rounds of a schedule, or of a beginning.
type schedule []round

// lists is the schedule as the calls return it.
func (s schedule) lists() [][][2]int {
	lists := make([][][2]int, len(s))
	for i, r := range s {
		for _, g := range r {
			lists[i] = append(lists[i], [2]int{g.home, g.away})
		}
	}
	return lists
}

// renamed is the schedule with names[i] for each team i.
func (s schedule) renamed(names []int) schedule {
	renamed := make(schedule, len(s))
	for i, r := range s {
		for _, g := range r {
			renamed[i] = append(renamed[i], game{names[g.home], names[g.away]})
		}
	}
	return renamed
}

// meetings is who has played with whom: meetings[i] is the teams that team i has played with. It is an array so that a copy of it goes on without the others' knowing.
type meetings [maxTeams]teams

// meet notes a game, if its teams have not had one before.
func (m *meetings) meet(g game) bool {
	if m[g.home].has(g.away) {
		return false
	}
	m[g.home] = m[g.home].with(g.away)
	m[g.away] = m[g.away].with(g.home)
	return true
}

// isNumber is whether n is a number of teams.
func isNumber(n int) bool {
	return n >= minTeams && n <= maxTeams && n%2 == 0
}

// isTeam is whether the number is one of n teams.
func isTeam(n, number int) bool {
	return number >= 0 && number < n
}

// areAll is whether the list has each of n teams, and each once.
func areAll(n int, list []int) bool {
	if len(list) != n {
		return false
	}
	var seen teams
	for _, number := range list {
		if !isTeam(n, number) || seen.has(number) {
			return false
		}
		seen = seen.with(number)
	}
	return true
}

// roundOf is the games as a round of n teams, if they are one.
func roundOf(n int, games [][2]int) (round, bool) {
	if len(games) != n/2 {
		return nil, false
	}
	var r round
	var playing []int
	for _, pair := range games {
		r = append(r, game{pair[0], pair[1]})
		playing = append(playing, pair[0], pair[1])
	}
	return r, areAll(n, playing)
}

// beginningOf is the rounds as a beginning of n teams, if they are one.
func beginningOf(n int, rounds [][][2]int) (schedule, bool) {
	if len(rounds) > n-1 {
		return nil, false
	}
	var s schedule
	var met meetings
	for _, games := range rounds {
		r, ok := roundOf(n, games)
		if !ok {
			return nil, false
		}
		for _, g := range r {
			if !met.meet(g) {
				return nil, false
			}
		}
		s = append(s, r)
	}
	return s, true
}
