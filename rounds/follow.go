package rounds

import (
	"slices"
)

// when is the round of each game, at either home.
func (s schedule) when() map[game]int {
	when := map[game]int{}
	for i, r := range s {
		for _, g := range r {
			when[g], when[g.turned()] = i, i
		}
	}
	return when
}

// followNumbers is the follow numbers of n teams.
func (s schedule) followNumbers(n int) [][]int {
	when := s.when()
	// follow is the number of teams that play with team i and with team k in the next round.
	follow := func(i, k int) int {
		many := 0
		for j := range n {
			one, ok := when[game{i, j}]
			other, too := when[game{j, k}]
			if ok && too && other == (one+1)%len(s) {
				many++
			}
		}
		return many
	}
	numbers := make([][]int, n)
	for i := range n {
		for k := range n {
			numbers[i] = append(numbers[i], follow(i, k))
		}
	}
	return numbers
}

// isBalanced is whether the follow numbers of any two different teams are 1.
func (s schedule) isBalanced(n int) bool {
	for i, row := range s.followNumbers(n) {
		for k, number := range row {
			if i != k && number != 1 {
				return false
			}
		}
	}
	return true
}

// ringFrom is the ring of the teams that are met from a team on, by turns as the one and as the other tells a team's opponent.
func ringFrom(start int, one, other func(team int) int) teams {
	var ring teams
	for team := start; !ring.has(team); team = other(one(team)) {
		ring = ring.with(team).with(one(team))
	}
	return ring
}

// rings is the numbers of teams of the rings that two rounds of n teams make, rising.
func rings(n int, a, b round) []int {
	var sizes []int
	var seen teams
	for team := range n {
		if seen.has(team) {
			continue
		}
		ring := ringFrom(team, a.opponent, b.opponent)
		seen |= ring
		sizes = append(sizes, ring.size())
	}
	slices.Sort(sizes)
	return sizes
}

// isPerfect is whether any two rounds of n teams make just one ring.
func (s schedule) isPerfect(n int) bool {
	for i, r := range s {
		for _, before := range s[:i] {
			if len(rings(n, before, r)) > 1 {
				return false
			}
		}
	}
	return true
}
