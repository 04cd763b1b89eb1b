package shifts_test

import (
	"math"
	"math/big"
	"slices"
	"testing"

	"girouette/api"
	"girouette/shifts"
)

var (
	// far is numbers that are no states, no lengths of trips and no numbers of ways.
	far = []int{math.MinInt, math.MinInt + 1, -1000, -1, 11, 12, 1000, 1 << 32, math.MaxInt - 1, math.MaxInt}
	// noMatrices is tables that are not matrices.
	noMatrices = [][][]int{
		nil, {}, {{}}, {nil}, {{1, 1}}, {{1}, {1}}, {{}, {}}, {{1, 0}, {1}}, {{1}, {0, 1}}, {{1, 0}, {}}, {{1, 0}, nil}, {{1, 0, 1}, {0, 1, 0}}, {{1, 0}, {0, 1}, {1, 1}},
		{{10}}, {{-1}}, {{math.MaxInt}}, {{math.MinInt}}, {{1 << 32}}, {{0, 0}, {0, 10}}, {{0, -1}, {0, 0}}, {{1, 0, 0}, {0, 1, 0}, {0, 0, 99}},
		zeros(6, 6), zeros(5, 6), zeros(6, 5), zeros(5, 4), zeros(4, 5), zeros(100, 100), make([][]int, 100000), {make([]int, 100000)},
	}
	golden = [][]int{{1, 1}, {1, 0}}
)

// zeros is a table of zeros.
func zeros(height, width int) [][]int {
	rows := make([][]int, height)
	for i := range rows {
		rows[i] = make([]int, width)
	}
	return rows
}

// all is a matrix with the same number everywhere.
func all(k, number int) [][]int {
	a := zeros(k, k)
	for i := range a {
		for j := range a {
			a[i][j] = number
		}
	}
	return a
}

// filled is a table of numbers that follow from a seed, from 0 to most.
func filled(height, width, most int, seed uint64) [][]int {
	rows := zeros(height, width)
	for i := range rows {
		for j := range rows[i] {
			seed = seed*6364136223846793005 + 1442695040888963407
			rows[i][j] = int((seed >> 33) % uint64(most+1))
		}
	}
	return rows
}

// sparse is the same for matrices, with zeros in most places.
func sparse(k, most int, seed uint64) [][]int {
	a, holes := filled(k, k, most, seed), filled(k, k, 2, seed+12345)
	for i := range a {
		for j := range a {
			if holes[i][j] > 0 {
				a[i][j] = 0
			}
		}
	}
	return a
}

// eachMatrix calls do for all matrices of k states with numbers up to most.
func eachMatrix(k, most int, do func(a [][]int)) {
	a := zeros(k, k)
	for {
		do(a)
		place := 0
		for place < k*k && a[place/k][place%k] == most {
			a[place/k][place%k] = 0
			place++
		}
		if place == k*k {
			return
		}
		a[place/k][place%k]++
	}
}

// cloned is a table in memory of its own.
func cloned(a [][]int) [][]int {
	rows := make([][]int, len(a))
	for i, numbers := range a {
		rows[i] = slices.Clone(numbers)
	}
	return rows
}

// same is whether two tables are equal.
func same(a, b [][]int) bool {
	return slices.EqualFunc(a, b, slices.Equal[[]int])
}

// ring is a matrix with one way from each state to the next one, and from the last one to the first.
func ring(k int) [][]int {
	a := zeros(k, k)
	for i := range k {
		a[i][(i+1)%k] = 1
	}
	return a
}

// wielandt is a matrix that mixes as late as it can.
func wielandt(k int) [][]int {
	a := ring(k)
	a[k-1][1%k] = 1
	return a
}

// someMatrices is all matrices of one state, small ones of two and three, and many others.
func someMatrices() [][][]int {
	var l [][][]int
	for _, most := range [][2]int{{1, 9}, {2, 2}} {
		eachMatrix(most[0], most[1], func(a [][]int) { l = append(l, cloned(a)) })
	}
	for k := 1; k <= 5; k++ {
		units := zeros(k, k)
		for i := range k {
			units[i][i] = 1
		}
		l = append(l, zeros(k, k), all(k, 1), all(k, 9), units, ring(k), wielandt(k))
		for seed := range uint64(40) {
			l = append(l, filled(k, k, 9, seed), filled(k, k, 1, seed), filled(k, k, 3, seed), sparse(k, 1, seed), sparse(k, 3, seed), sparse(k, 9, seed))
		}
	}
	return l
}

// bigs is a table of numbers without bounds.
func bigs(a [][]int) [][]*big.Int {
	rows := make([][]*big.Int, len(a))
	for i, numbers := range a {
		for _, number := range numbers {
			rows[i] = append(rows[i], big.NewInt(int64(number)))
		}
	}
	return rows
}

// product is the product of two tables.
func product(a, b [][]*big.Int) [][]*big.Int {
	rows := make([][]*big.Int, len(a))
	for i := range a {
		for j := range b[0] {
			sum := new(big.Int)
			for k := range b {
				sum.Add(sum, new(big.Int).Mul(a[i][k], b[k][j]))
			}
			rows[i] = append(rows[i], sum)
		}
	}
	return rows
}

// power is the numbers of trips of length m from state to state.
func power(a [][]int, m int) [][]*big.Int {
	p := zeros(len(a), len(a))
	for i := range p {
		p[i][i] = 1
	}
	trips := bigs(p)
	for range m {
		trips = product(trips, bigs(a))
	}
	return trips
}

// reaches is between which states there is a trip of length m, for m up to most.
func reaches(a [][]int, most int) [][][]bool {
	k := len(a)
	var l [][][]bool
	for m := range most + 1 {
		now := make([][]bool, k)
		for i := range now {
			now[i] = make([]bool, k)
			for j := range now[i] {
				now[i][j] = m == 0 && i == j
				for over := range k {
					now[i][j] = now[i][j] || m > 0 && l[m-1][i][over] && a[over][j] > 0
				}
			}
		}
		l = append(l, now)
	}
	return l
}

// isFull is whether all of a table is true.
func isFull(reach [][]bool) bool {
	for _, l := range reach {
		if slices.Contains(l, false) {
			return false
		}
	}
	return true
}

// hangs is the definition of what hangs together: no shortest trip between two states, or around one, is longer than there are states.
func hangs(a [][]int) bool {
	l := reaches(a, len(a))
	for i := range a {
		for j := range a {
			if !slices.ContainsFunc(l[1:], func(reach [][]bool) bool { return reach[i][j] }) {
				return false
			}
		}
	}
	return true
}

// beat is the greatest common divisor of the lengths of round trips of up to 40 ways.
func beat(a [][]int) int {
	common := new(big.Int)
	for m, reach := range reaches(a, 40) {
		for i := range a {
			if reach[i][i] {
				common.GCD(nil, nil, common, big.NewInt(int64(m)))
			}
		}
	}
	return int(common.Int64())
}

// permutations is all lists of the numbers from 0 to n - 1.
func permutations(n int) [][]int {
	if n == 0 {
		return [][]int{nil}
	}
	var l [][]int
	for _, p := range permutations(n - 1) {
		for i := range n {
			l = append(l, slices.Insert(slices.Clone(p), i, n-1))
		}
	}
	return l
}

// signOf is 1 or -1, by the number of pairs that a permutation puts the other way round.
func signOf(p []int) int64 {
	sign := int64(1)
	for i := range p {
		for k := range i {
			if p[k] > p[i] {
				sign = -sign
			}
		}
	}
	return sign
}

// fixed is the determinant of 1 - t a by its definition, the sum of a product for each permutation, without zeros at the end.
func fixed(a [][]int) []int64 {
	whole := make([]int64, len(a)+1)
	for _, p := range permutations(len(a)) {
		term := []int64{signOf(p)}
		for i, j := range p {
			next := make([]int64, len(term)+1)
			for at, number := range term {
				if i == j {
					next[at] += number
				}
				next[at+1] -= number * int64(a[i][j])
			}
			term = next
		}
		for at, number := range term {
			whole[at] += number
		}
	}
	for whole[len(whole)-1] == 0 {
		whole = whole[:len(whole)-1]
	}
	return whole
}

// fromOne is 1 - a.
func fromOne(a [][]int) [][]int {
	rest := zeros(len(a), len(a))
	for i := range a {
		for j := range a {
			rest[i][j] = -a[i][j]
		}
		rest[i][i]++
	}
	return rest
}

// determinant is that of 1 - a by its definition.
func determinant(a [][]int) int64 {
	rest, whole := fromOne(a), int64(0)
	for _, p := range permutations(len(a)) {
		term := signOf(p)
		for i, j := range p {
			term *= int64(rest[i][j])
		}
		whole += term
	}
	return whole
}

// form is the numbers of the form that row and column operations bring 1 - a into.
func form(a [][]int) []*big.Int {
	rest := bigs(fromOne(a))
	var numbers []*big.Int
	for len(rest) > 0 {
		for !isCleared(rest) {
			clearBorder(rest)
		}
		numbers = append(numbers, new(big.Int).Abs(rest[0][0]))
		rest = rest[1:]
		for i := range rest {
			rest[i] = rest[i][1:]
		}
	}
	return numbers
}

// divides is whether a number divides another one; all divide 0, and 0 nothing else.
func divides(number, other *big.Int) bool {
	return other.Sign() == 0 || number.Sign() != 0 && new(big.Int).Rem(other, number).Sign() == 0
}

// isCleared is whether the first row and column are 0 but for their corner, which divides all the rest.
func isCleared(rest [][]*big.Int) bool {
	for i := range rest {
		for j, number := range rest[i] {
			if (i == 0) != (j == 0) && number.Sign() != 0 || !divides(rest[0][0], number) {
				return false
			}
		}
	}
	return true
}

// clearBorder brings a least number that is not 0 into the corner, and takes multiples of its row and column from all others; where that changes nothing, a row whose numbers the corner does not divide is added to the first one.
func clearBorder(rest [][]*big.Int) {
	top, left := -1, -1
	for i := range rest {
		for j, number := range rest[i] {
			if number.Sign() != 0 && (top < 0 || number.CmpAbs(rest[top][left]) < 0) {
				top, left = i, j
			}
		}
	}
	rest[0], rest[top] = rest[top], rest[0]
	for i := range rest {
		rest[i][0], rest[i][left] = rest[i][left], rest[i][0]
	}
	corner := rest[0][0]
	for i := range rest[1:] {
		times := new(big.Int).Quo(rest[i+1][0], corner)
		for j, number := range rest[0] {
			rest[i+1][j] = new(big.Int).Sub(rest[i+1][j], new(big.Int).Mul(times, number))
		}
	}
	for j := range rest[1:] {
		times := new(big.Int).Quo(rest[0][j+1], corner)
		for i := range rest {
			rest[i][j+1] = new(big.Int).Sub(rest[i][j+1], new(big.Int).Mul(times, rest[i][0]))
		}
	}
	border := slices.ContainsFunc(rest[0][1:], func(x *big.Int) bool { return x.Sign() != 0 })
	for _, l := range rest[1:] {
		border = border || l[0].Sign() != 0
	}
	for _, l := range rest[1:] {
		if !border && slices.ContainsFunc(l, func(x *big.Int) bool { return !divides(corner, x) }) {
			for j := range rest[0] {
				rest[0][j] = new(big.Int).Add(rest[0][j], l[j])
			}
			return
		}
	}
}

// torsion is the numbers of the form that are not 1.
func torsion(a [][]int) []int64 {
	var l []int64
	for _, number := range form(a) {
		if number.Cmp(big.NewInt(1)) != 0 {
			l = append(l, number.Int64())
		}
	}
	return l
}

// rounds is what Rounds returns of a matrix.
func rounds(t *testing.T, a [][]int, m int) int64 {
	t.Helper()
	many, e := shifts.Rounds(a, m)
	if e != api.OK {
		t.Error(a, m, e)
	}
	return many
}

// lists is what Fixed, Torsion and Sign return of a matrix.
func lists(t *testing.T, a [][]int) (polynomial, torsion []int64, sign int) {
	t.Helper()
	polynomial, e := shifts.Fixed(a)
	torsion, f := shifts.Torsion(a)
	sign, g := shifts.Sign(a)
	if e != api.OK || f != api.OK || g != api.OK {
		t.Error(a, e, f, g)
	}
	return polynomial, torsion, sign
}
