package cycles_test

import (
	"math"
	"math/big"
	"slices"
	"testing"

	"girouette/api"
	"girouette/cycles"
)

var (
	// far is numbers that are nothing that a cycle has, and no lengths.
	far = []int{math.MinInt, -8, -1, 13, 14, 1_000_000_001, math.MaxInt}
	// noCycles is lists that are not cycles.
	noCycles = [][]int{
		nil, {}, {0}, {1}, {0, 1}, {1, 1}, {0, 0}, {1, 5}, {1, 2}, {-1, 0}, {1, -1}, {0, 2, 1}, {1, 0, 2}, {2, 1, 0}, {1, 2, 1}, {1, 2, 2},
		{1, 2, 3}, {1, 0, 3, 2}, {1, 2, 0, 3}, {2, 3, 0, 1}, {1, 2, 3, 4}, {math.MaxInt, 0}, {1, math.MinInt},
		{1, 2, 3, 4, 5, 6, 7, 8, 0}, {1, 2, 3, 4, 5, 6, 7, 8}, {1, 2, 0, 4, 5, 6, 7, 3}, make([]int, 100000), upTo(100000),
	}
)

// upTo is the numbers from 0 to n - 1.
func upTo(n int) []int {
	l := make([]int, n)
	for i := range l {
		l[i] = i
	}
	return l
}

// permutations is all lists of the numbers from 0 to n - 1.
func permutations(n int) [][]int {
	if n == 0 {
		return [][]int{nil}
	}
	var l [][]int
	for _, p := range permutations(n - 1) {
		for i := range n {
			l = append(l, slices.Insert(slices.Clone(p), i, n-1))
		}
	}
	return l
}

// isCycle is the definition of a cycle.
func isCycle(p []int) bool {
	n := len(p)
	if n < 2 || n > 8 {
		return false
	}
	sorted := slices.Clone(p)
	slices.Sort(sorted)
	if !slices.Equal(sorted, upTo(n)) {
		return false
	}
	at := p[0]
	for range n - 1 {
		if at == 0 {
			return false
		}
		at = p[at]
	}
	return at == 0
}

// cyclesOf is all cycles of n numbers.
func cyclesOf(n int) [][]int {
	return slices.DeleteFunc(permutations(n), func(p []int) bool { return !isCycle(p) })
}

// someCycles is all cycles of up to six numbers, and some of seven and eight.
func someCycles() [][]int {
	var l [][]int
	for n := 2; n <= 8; n++ {
		for i, p := range cyclesOf(n) {
			if n < 7 || i%(n*n) == 0 {
				l = append(l, p)
			}
		}
	}
	return l
}

// covers is the definition of what interval i covers.
func covers(p []int, i, k int) bool {
	return k >= min(p[i], p[i+1]) && k < max(p[i], p[i+1])
}

// isLoop is the definition of a loop, of any length but 0.
func isLoop(p, loop []int) bool {
	for _, interval := range loop {
		if interval < 0 || interval >= len(p)-1 {
			return false
		}
	}
	for i, interval := range loop {
		if !covers(p, interval, loop[(i+1)%len(loop)]) {
			return false
		}
	}
	return len(loop) > 0
}

// isPlain is whether a list is not a shorter one, written several times.
func isPlain(loop []int) bool {
	for part := 1; part < len(loop); part++ {
		if len(loop)%part == 0 && slices.Equal(slices.Repeat(loop[:part], len(loop)/part), loop) {
			return false
		}
	}
	return true
}

// eachList calls do for all lists of that length of the numbers from 0 to n - 1, rising.
func eachList(n, length int, do func(list []int)) {
	list := make([]int, length)
	for {
		do(list)
		i := length - 1
		for i >= 0 && list[i] == n-1 {
			list[i] = 0
			i--
		}
		if i < 0 {
			return
		}
		list[i]++
	}
}

// counts is the numbers of loops of the lengths from 0 to 12, of which the one at 0 means nothing: the sums of the diagonals of the powers of the matrix of what covers what.
func counts(p []int) [13]int64 {
	n := len(p) - 1
	var all [13]int64
	power := make([][]int64, n)
	for i := range power {
		power[i] = make([]int64, n)
		power[i][i] = 1
	}
	for m := range all {
		next := make([][]int64, n)
		for i := range n {
			all[m] += power[i][i]
			next[i] = make([]int64, n)
			for j := range n {
				for k := range n {
					if covers(p, k, j) {
						next[i][j] += power[i][k]
					}
				}
			}
		}
		power = next
	}
	return all
}

// plainCounts is the numbers of plain loops of the lengths from 0 to 12: all loops but those that are written from shorter plain ones.
func plainCounts(p []int) [13]int64 {
	all := counts(p)
	for m := range all {
		for d := 1; d < m; d++ {
			if m%d == 0 {
				all[m] -= all[d]
			}
		}
	}
	return all
}

// value is the cycle's map by its definition.
func value(p []int, x *big.Rat) *big.Rat {
	i := len(p) - 2
	for i > 0 && x.Cmp(big.NewRat(int64(i), 1)) < 0 {
		i--
	}
	part := new(big.Rat).Sub(x, big.NewRat(int64(i), 1))
	part.Mul(part, big.NewRat(int64(p[i+1]-p[i]), 1))
	return part.Add(part, big.NewRat(int64(p[i]), 1))
}

// parts is a number as a numerator and a denominator.
func parts(x *big.Rat) [2]int64 {
	return [2]int64{x.Num().Int64(), x.Denom().Int64()}
}

// somePoints is numbers from 0 to n - 1: all with small denominators, and some with greater ones.
func somePoints(n int) []*big.Rat {
	var l []*big.Rat
	for under := int64(1); under <= 15; under++ {
		for over := int64(0); over <= int64(n-1)*under; over++ {
			if x := big.NewRat(over, under); x.Denom().Int64() == under {
				l = append(l, x)
			}
		}
	}
	for _, under := range []int64{31, 63, 127, 255, 1000, 2047, 4097, 65535, 99999, 999999, 1000000} {
		for k := range int64(9) {
			l = append(l, big.NewRat(int64(n-1)*under*k/8, under))
		}
		l = append(l, big.NewRat(1, under), big.NewRat(int64(n-1)*under-1, under))
	}
	return l
}

// mu is Moebius' function.
func mu(n int) int64 {
	sign := int64(1)
	for d := 2; d <= n; d++ {
		if n%d == 0 {
			n /= d
			sign = -sign
			if n%d == 0 {
				return 0
			}
		}
	}
	return sign
}

// wordsOf is all words with that many letters, rising.
func wordsOf(letters int) []string {
	l := []string{""}
	for range letters {
		var longer []string
		for _, w := range l {
			longer = append(longer, w+"L", w+"R")
		}
		l = longer
	}
	return l
}

// isLower is the definition of what is lower, for two words with C.
func isLower(a, b string) bool {
	for i := range a {
		if a[i] == b[i] {
			continue
		}
		many := 0
		for _, letter := range a[:i] {
			if letter == 'R' {
				many++
			}
		}
		value := map[byte]int{'L': 0, 'C': 1, 'R': 2}
		return (value[a[i]] < value[b[i]]) == (many%2 == 0)
	}
	return false
}

// isGreatest is the definition of a greatest word.
func isGreatest(w string) bool {
	for k := 1; k <= len(w); k++ {
		if !isLower(w[k:]+"C", w+"C") {
			return false
		}
	}
	return true
}

// periodsOf is what Periods returns of a cycle.
func periodsOf(t *testing.T, p []int) []int {
	t.Helper()
	l, e := cycles.Periods(p)
	if e != api.OK {
		t.Error(p, e)
	}
	return l
}
