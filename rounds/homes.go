package rounds

import (
	"cmp"
	"iter"
	"slices"
)

// sum is all values added up: numbers, or strings one behind the other.
func sum[T int | string](values ...T) T {
	var whole T
	for _, value := range values {
		whole += value
	}
	return whole
}

// homes is the set of the teams that are at home.
func (r round) homes() teams {
	var homes teams
	for _, g := range r {
		homes = homes.with(g.home)
	}
	return homes
}

// homesOf is the string with H for each round in which the team is at home, otherwise A.
func (s schedule) homesOf(team int) string {
	var letters []string
	for _, r := range s {
		letter := "A"
		if r.homes().has(team) {
			letter = "H"
		}
		letters = append(letters, letter)
	}
	return sum(letters...)
}

// breaks is the number of breaks of n teams: in each round but the first, all those who do not change between home and away.
func (s schedule) breaks(n int) int {
	var breaks []int
	for i, r := range s[1:] {
		changing := s[i].homes() ^ r.homes()
		breaks = append(breaks, n-changing.size())
	}
	return sum(breaks...)
}

// versions runs through the rounds of the same games, each at either home.
func (r round) versions() iter.Seq[round] {
	return func(yield func(round) bool) {
		for set := range 1 << len(r) {
			version := slices.Clone(r)
			for i, g := range r {
				if set>>i&1 == 1 {
					version[i] = g.turned()
				}
			}
			if !yield(version) {
				return
			}
		}
	}
}

// turned is a schedule of n teams with the fewest breaks of all that play alike.
func (s schedule) turned(n int) schedule {
	// A round has breaks with the one before it alone. So one schedule is enough for each version of the last round so far.
	best := []schedule{nil}
	for _, r := range s {
		var next []schedule
		for version := range r.versions() {
			var longer []schedule
			for _, begin := range best {
				longer = append(longer, append(slices.Clone(begin), version))
			}
			next = append(next, fewestBreaks(n, longer))
		}
		best = next
	}
	return fewestBreaks(n, best)
}

// fewestBreaks is the schedule of n teams that has the fewest breaks.
func fewestBreaks(n int, list []schedule) schedule {
	return slices.MinFunc(list, func(one, other schedule) int {
		return cmp.Compare(one.breaks(n), other.breaks(n))
	})
}
