package shifts

import (
	"iter"
	"slices"
)

// maxLength is the most ways of a trip.
const maxLength = 10

// countTrips is the number of trips of length m between k states.
func (a matrix) countTrips(k, m int) int64 {
	var sum int64
	for _, trips := range a.powers(k, m)[m] {
		for _, many := range trips {
			sum += many
		}
	}
	return sum
}

// diagonal is the sum of the numbers from the upper left to the lower right corner: of a power, the number of round trips.
func (a matrix) diagonal() int64 {
	var sum int64
	for i, trips := range a {
		sum += trips[i]
	}
	return sum
}

// countOrbits is the number of round trips of length m between k states that are not a shorter one, done several times, divided by m.
func (a matrix) countOrbits(k, m int) int64 {
	powers := a.powers(k, m)
	// plain is, by the divisors of m, how many round trips of that length are not a shorter one, done several times.
	plain := map[int]int64{}
	for length := 1; length <= m; length++ {
		if m%length != 0 {
			continue
		}
		many := powers[length].diagonal()
		for part, fewer := range plain {
			if length%part == 0 {
				many -= fewer
			}
		}
		plain[length] = many
	}
	return plain[m] / int64(m)
}

// longer runs through the trips that go on from the end of a trip by one way more, rising.
func (a matrix) longer(trip []int) iter.Seq[[]int] {
	return func(yield func([]int) bool) {
		end := trip[len(trip)-1]
		for next, many := range a[end] {
			if many > 0 && !yield(append(slices.Clone(trip), next)) {
				return
			}
		}
	}
}

// firstTrip is the first list of states of a trip of length m between two of k states, if there is one.
func (a matrix) firstTrip(k, from, to, m int) ([]int, bool) {
	powers := a.powers(k, m)
	// arrives is whether a trip that has begun can be at its end after all its ways.
	arrives := func(begun []int) bool {
		ways := len(begun) - 1
		return powers[m-ways][begun[ways]][to] > 0
	}
	trip := []int{from}
	if !arrives(trip) {
		return nil, false
	}
nextWay:
	for range m {
		// One of these arrives, as the trip before it does.
		for longer := range a.longer(trip) {
			if arrives(longer) {
				trip = longer
				continue nextWay
			}
		}
	}
	return trip, true
}
