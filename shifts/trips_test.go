package shifts_test

import (
	"math/big"
	"slices"
	"testing"

	"girouette/api"
	"girouette/shifts"
)

// way is one of the ways from a state to a state.
type way struct {
	from, to, number int
}

// tripsOf is all trips of length m, from 1 on, by their ways.
func tripsOf(a [][]int, m int) [][]way {
	var ways []way
	for i := range a {
		for j, many := range a[i] {
			for number := range many {
				ways = append(ways, way{i, j, number})
			}
		}
	}
	l := [][]way{nil}
	for range m {
		var longer [][]way
		for _, trip := range l {
			for _, next := range ways {
				if len(trip) == 0 || trip[len(trip)-1].to == next.from {
					longer = append(longer, append(slices.Clone(trip), next))
				}
			}
		}
		l = longer
	}
	return l
}

// isPlain is whether a round trip is not a shorter one, done several times.
func isPlain(trip []way) bool {
	for part := 1; part < len(trip); part++ {
		if len(trip)%part == 0 && slices.Equal(slices.Repeat(trip[:part], len(trip)/part), trip) {
			return false
		}
	}
	return true
}

// checkCounts compares Trips, Rounds and Orbits with all trips of length m.
func checkCounts(t *testing.T, a [][]int, m int) {
	t.Helper()
	var trips, rounds, plain int64
	for _, trip := range tripsOf(a, m) {
		trips++
		if trip[0].from == trip[m-1].to {
			rounds++
			if isPlain(trip) {
				plain++
			}
		}
	}
	if got, e := shifts.Trips(a, m); got != trips || e != api.OK {
		t.Error("Trips", a, m, got, e, trips)
	}
	if got, e := shifts.Rounds(a, m); got != rounds || e != api.OK {
		t.Error("Rounds", a, m, got, e, rounds)
	}
	if got, e := shifts.Orbits(a, m); got*int64(m) != plain || e != api.OK {
		t.Error("Orbits", a, m, got, e, plain)
	}
}

// TestCounts: P6.2, by the definition, matrices with few ways.
func TestCounts(t *testing.T) {
	for many := range 4 {
		for m := 1; m <= 6; m++ {
			checkCounts(t, [][]int{{many}}, m)
		}
	}
	eachMatrix(2, 2, func(a [][]int) {
		for m := 1; m <= 4; m++ {
			checkCounts(t, a, m)
		}
	})
	eachMatrix(2, 1, func(a [][]int) {
		for m := 5; m <= 8; m++ {
			checkCounts(t, a, m)
		}
	})
	for seed := range uint64(30) {
		for m := 1; m <= 6; m++ {
			checkCounts(t, sparse(3, 2, seed), m)
			checkCounts(t, sparse(4, 1, seed), m)
			checkCounts(t, sparse(5, 1, seed), m)
		}
	}
	for k := 1; k <= 5; k++ {
		for m := 1; m <= 10; m++ {
			checkCounts(t, ring(k), m)
			checkCounts(t, wielandt(k), m)
		}
	}
}

// TestPowers: P6.2, all lengths, by the sums of powers of the matrix.
func TestPowers(t *testing.T) {
	for _, a := range someMatrices() {
		for m := range 11 {
			trips, rounds := new(big.Int), new(big.Int)
			for i, l := range power(a, m) {
				rounds.Add(rounds, l[i])
				for _, many := range l {
					trips.Add(trips, many)
				}
			}
			if got, e := shifts.Trips(a, m); big.NewInt(got).Cmp(trips) != 0 || e != api.OK {
				t.Error("Trips", a, m, got, e, trips)
			}
			if got, e := shifts.Rounds(a, m); big.NewInt(got).Cmp(rounds) != 0 || e != api.OK {
				t.Error("Rounds", a, m, got, e, rounds)
			}
		}
	}
	// The most trips that there may be.
	if got, e := shifts.Trips(all(5, 9), 10); got != 170253144580078125 || e != api.OK {
		t.Error(got, e)
	}
}

// TestLengths: P6.2 and R9, lengths that are not in range.
func TestLengths(t *testing.T) {
	for _, a := range [][][]int{{{0}}, {{9}}, golden, ring(5)} {
		for _, m := range far {
			if got, e := shifts.Trips(a, m); got != 0 || e != api.ErrArg {
				t.Error("Trips", a, m, got, e)
			}
			if got, e := shifts.Rounds(a, m); got != 0 || e != api.ErrArg {
				t.Error("Rounds", a, m, got, e)
			}
			if got, e := shifts.Orbits(a, m); got != 0 || e != api.ErrArg {
				t.Error("Orbits", a, m, got, e)
			}
			if got, ok, e := shifts.Trip(a, 0, 0, m); len(got) > 0 || ok || e != api.ErrArg {
				t.Error("Trip", a, m, got, ok, e)
			}
		}
		if got, e := shifts.Orbits(a, 0); got != 0 || e != api.ErrArg {
			t.Error("Orbits", a, got, e)
		}
		if got, e := shifts.Trips(a, 0); got != int64(len(a)) || e != api.OK {
			t.Error("Trips", a, got, e)
		}
		if got, e := shifts.Rounds(a, 0); got != int64(len(a)) || e != api.OK {
			t.Error("Rounds", a, got, e)
		}
	}
}

// TestNewton: P6.6.
func TestNewton(t *testing.T) {
	for _, a := range someMatrices() {
		c, _, _ := lists(t, a)
		if c[0] != 1 {
			t.Error(a, c)
		}
		at := func(i int) *big.Int {
			if i < len(c) {
				return big.NewInt(c[i])
			}
			return new(big.Int)
		}
		for m := 1; m <= 10; m++ {
			sum := new(big.Int).Mul(big.NewInt(int64(m)), at(m))
			for i := range m {
				sum.Add(sum, new(big.Int).Mul(at(i), big.NewInt(rounds(t, a, m-i))))
			}
			if sum.Sign() != 0 {
				t.Error(a, m, c, sum)
			}
			rest := rounds(t, a, m)
			for d := 1; d <= m; d++ {
				if m%d == 0 {
					orbits, e := shifts.Orbits(a, d)
					if orbits < 0 || e != api.OK {
						t.Error(a, d, orbits, e)
					}
					rest -= int64(d) * orbits
				}
			}
			if rest != 0 {
				t.Error(a, m, rest)
			}
		}
	}
}

// firstTrips is, for all pairs of states, the first list of states of a trip of length m, or nil: the least of those that are one state and a first list from the next one.
func firstTrips(a [][]int, m int) [][][]int {
	k := len(a)
	l := make([][][]int, k)
	var shorter [][][]int
	if m > 0 {
		shorter = firstTrips(a, m-1)
	}
	for i := range k {
		l[i] = make([][]int, k)
		for j := range k {
			if m == 0 && i == j {
				l[i][j] = []int{i}
			}
			for next := range k {
				if m == 0 || a[i][next] == 0 || shorter[next][j] == nil {
					continue
				}
				trip := append([]int{i}, shorter[next][j]...)
				if l[i][j] == nil || slices.Compare(trip, l[i][j]) < 0 {
					l[i][j] = trip
				}
			}
		}
	}
	return l
}

// checkFirst compares Trip with the first trips of all lengths between all states.
func checkFirst(t *testing.T, a [][]int) {
	t.Helper()
	for m := range 11 {
		for i, l := range firstTrips(a, m) {
			for j, want := range l {
				got, ok, e := shifts.Trip(a, i, j, m)
				if !slices.Equal(got, want) || ok != (want != nil) || e != api.OK {
					t.Error(a, i, j, m, got, ok, e, want)
				}
			}
		}
	}
}

// TestTrip: P6.2, all matrices of three states with no more than one way from each to each, and many others.
func TestTrip(t *testing.T) {
	eachMatrix(3, 1, func(a [][]int) { checkFirst(t, a) })
	for _, a := range someMatrices() {
		checkFirst(t, a)
	}
}

// TestTripByLists: P6.2, the first of all lists of states.
func TestTripByLists(t *testing.T) {
	eachMatrix(3, 1, func(a [][]int) {
		for m := range 4 {
			first := map[[2]int][]int{}
			for number := range pow(3, m+1) {
				list := make([]int, m+1)
				for at := m; at >= 0; at-- {
					list[at] = number % 3
					number /= 3
				}
				is := true
				for at := range m {
					is = is && a[list[at]][list[at+1]] > 0
				}
				ends := [2]int{list[0], list[m]}
				if is && first[ends] == nil {
					first[ends] = list
				}
			}
			for i := range 3 {
				for j := range 3 {
					want := first[[2]int{i, j}]
					if got, ok, e := shifts.Trip(a, i, j, m); !slices.Equal(got, want) || ok != (want != nil) || e != api.OK {
						t.Error(a, i, j, m, got, ok, e, want)
					}
				}
			}
		}
	})
}

// pow is a power of a number.
func pow(number, times int) int {
	whole := 1
	for range times {
		whole *= number
	}
	return whole
}

// TestTripErrors: P6.2 and R9.
func TestTripErrors(t *testing.T) {
	for _, a := range [][][]int{{{1}}, golden, wielandt(4), filled(5, 5, 9, 3)} {
		k := len(a)
		for _, no := range append([]int{k, k + 1}, far...) {
			for _, l := range [][3]int{{no, 0, 0}, {0, no, 0}, {no, no, 0}, {no, k - 1, 10}, {k - 1, no, 3}, {no, 0, 11}, {0, no, -1}} {
				if got, ok, e := shifts.Trip(a, l[0], l[1], l[2]); len(got) > 0 || ok || e != api.ErrArg {
					t.Error(a, l, got, ok, e)
				}
			}
		}
		if got, ok, e := shifts.Trip(a, k-1, k-1, 0); !slices.Equal(got, []int{k - 1}) || !ok || e != api.OK {
			t.Error(a, got, ok, e)
		}
	}
	// No trip of length 0 from one state to another one, also where there are ways.
	if got, ok, e := shifts.Trip(golden, 0, 1, 0); len(got) > 0 || ok || e != api.OK {
		t.Error(got, ok, e)
	}
}
