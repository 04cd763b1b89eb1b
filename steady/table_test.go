package steady_test

import (
	"math/big"
	"reflect"
	"slices"
	"testing"

	"girouette/api"
	"girouette/steady"
)

// elementOf is an element of a row, or 0 beyond its end.
func elementOf(row []*big.Rat, i int) *big.Rat {
	if i < len(row) {
		return row[i]
	}
	return whole(0)
}

// tableOf is the definition of the table; nil if it breaks.
func tableOf(a []int) [][]*big.Rat {
	n := len(a) - 1
	rows := make([][]*big.Rat, 2)
	for i := range a {
		rows[i%2] = append(rows[i%2], whole(a[n-i]))
	}
	for number := 2; number <= n; number++ {
		above, before := rows[number-2], rows[number-1]
		if before[0].Sign() == 0 {
			return nil
		}
		var row []*big.Rat
		for i := range len(above) - 1 {
			share := per(times(elementOf(before, i+1), above[0]), before[0])
			row = append(row, minus(above[i+1], share))
		}
		rows = append(rows, row)
	}
	return rows[:n+1]
}

// pairsOf is a table as the calls return it.
func pairsOf(rows [][]*big.Rat) [][][2]int64 {
	var list [][][2]int64
	for _, row := range rows {
		var pairs [][2]int64
		for _, x := range row {
			pairs = append(pairs, [2]int64{x.Num().Int64(), x.Denom().Int64()})
		}
		list = append(list, pairs)
	}
	return list
}

// TestTable: P9.2.
func TestTable(t *testing.T) {
	whole, broken := 0, 0
	for _, a := range somePolynomials(1) {
		rows := tableOf(a)
		want := api.OK
		if rows == nil {
			want = api.ErrNone
			broken++
		} else {
			whole++
		}
		if got, e := steady.Table(a); e != want || !reflect.DeepEqual(got, pairsOf(rows)) {
			t.Error(a, got, e, rows)
		}
	}
	if whole < 500 || broken < 500 {
		t.Error(whole, broken)
	}
}

// TestKnownTables: P9.2, tables of all degrees, those that break in each row, and those whose last element is 0.
func TestKnownTables(t *testing.T) {
	type pairs = [][2]int64
	for _, c := range []struct {
		a    []int
		want [][][2]int64
	}{
		{[]int{7}, []pairs{{{7, 1}}}},
		{[]int{-7}, []pairs{{{-7, 1}}}},
		{[]int{0, 1}, []pairs{{{1, 1}}, {{0, 1}}}},
		{[]int{2, -3}, []pairs{{{-3, 1}}, {{2, 1}}}},
		{[]int{2, 3, 1}, []pairs{{{1, 1}, {2, 1}}, {{3, 1}}, {{2, 1}}}},
		{[]int{0, 3, 1}, []pairs{{{1, 1}, {0, 1}}, {{3, 1}}, {{0, 1}}}},
		{[]int{1, 0, 1}, nil},
		{[]int{1, 2, 3, 1}, []pairs{{{1, 1}, {2, 1}}, {{3, 1}, {1, 1}}, {{5, 3}}, {{1, 1}}}},
		{[]int{1, 2, -3, 1}, []pairs{{{1, 1}, {2, 1}}, {{-3, 1}, {1, 1}}, {{7, 3}}, {{1, 1}}}},
		{[]int{0, 2, 3, 1}, []pairs{{{1, 1}, {2, 1}}, {{3, 1}, {0, 1}}, {{2, 1}}, {{0, 1}}}},
		{[]int{1, 2, 0, 1}, nil},
		{[]int{1, 1, 1, 1}, nil},
		{[]int{1, 4, 6, 4, 1}, []pairs{{{1, 1}, {6, 1}, {1, 1}}, {{4, 1}, {4, 1}}, {{5, 1}, {1, 1}}, {{16, 5}}, {{1, 1}}}},
		{[]int{4, 4, 5, 4, 1}, nil},
		{[]int{1, 1, 2, 2, 1, 1}, nil},
		{[]int{1, 5, 10, 10, 5, 1}, []pairs{{{1, 1}, {10, 1}, {5, 1}}, {{5, 1}, {10, 1}, {1, 1}}, {{8, 1}, {24, 5}}, {{7, 1}, {1, 1}}, {{128, 35}}, {{1, 1}}}},
		{[]int{0, 5, 10, 10, 5, 1}, []pairs{{{1, 1}, {10, 1}, {5, 1}}, {{5, 1}, {10, 1}, {0, 1}}, {{8, 1}, {5, 1}}, {{55, 8}, {0, 1}}, {{5, 1}}, {{0, 1}}}},
	} {
		want := api.OK
		if len(c.want) == 0 {
			want = api.ErrNone
		}
		got, e := steady.Table(c.a)
		if e != want || !slices.EqualFunc(got, c.want, slices.Equal) {
			t.Error(c.a, got, e)
		}
	}
}

// breaksAt is the number of the row at which the definition's table breaks, or -1.
func breaksAt(a []int) int {
	if tableOf(a) != nil {
		return -1
	}
	n := len(a) - 1
	for number := 1; number < n; number++ {
		// The first elements are quotients of minors as far as there are any.
		if minorOf(a, number).Sign() == 0 {
			return number
		}
	}
	return n
}

// TestTablesBreakEverywhere: P9.2, the tests know tables that break in each row in which one can.
func TestTablesBreakEverywhere(t *testing.T) {
	seen := map[[2]int]int{}
	for _, a := range somePolynomials(1) {
		seen[[2]int{len(a) - 1, breaksAt(a)}]++
	}
	for n := range 6 {
		if n > 0 && seen[[2]int{n, n}] > 0 {
			t.Error(n, "breaks in its last row")
		}
		for number := 1; number < n; number++ {
			if seen[[2]int{n, number}] < 5 {
				t.Error(n, number, seen[[2]int{n, number}])
			}
		}
		if seen[[2]int{n, -1}] < 2 {
			t.Error(n, seen[[2]int{n, -1}])
		}
	}
}

// TestRight: P9.2.
func TestRight(t *testing.T) {
	counts := map[int]int{}
	for _, a := range somePolynomials(1) {
		rows := tableOf(a)
		want, wantE := (len(a)-1-turns(a))/2, api.OK
		if rows == nil || rows[len(a)-1][0].Sign() == 0 {
			want, wantE = 0, api.ErrNone
			counts[-1]++
		} else {
			counts[want]++
		}
		if got, e := steady.Right(a); got != want || e != wantE {
			t.Error(a, got, e, want)
		}
	}
	for _, many := range []int{-1, 0, 1, 2, 3, 4, 5} {
		if counts[many] < 20 {
			t.Error(many, counts[many])
		}
	}
}

// TestRightOfProducts: P9.2, polynomials whose roots are known; with roots on neither side there is no Right.
func TestRightOfProducts(t *testing.T) {
	many, none := 0, 0
	for _, b := range someBuilt([]int{1, -1, 2, -3}) {
		got, e := steady.Right(b.a)
		switch {
		case e == api.ErrNone && got == 0:
			none++
		case e != api.OK || got != b.right || b.middle > 0:
			t.Error(b, got, e)
		default:
			many++
		}
		if b.right+b.middle == 0 && e != api.OK {
			t.Error(b, e)
		}
	}
	if many < 500 || none < 500 {
		t.Error(many, none)
	}
}

// TestKnownRight: P9.2.
func TestKnownRight(t *testing.T) {
	for _, c := range []struct {
		a    []int
		want int
		e    api.Errno
	}{
		{[]int{7}, 0, api.OK}, {[]int{-7}, 0, api.OK}, {[]int{-1, 1}, 1, api.OK}, {[]int{1, -1}, 1, api.OK}, {[]int{1, 1}, 0, api.OK}, {[]int{-1, -1}, 0, api.OK}, {[]int{0, 1}, 0, api.ErrNone},
		{[]int{1, -3, 1}, 2, api.OK}, {[]int{1, -2, 1}, 2, api.OK}, {[]int{-1, 0, 1}, 0, api.ErrNone}, {[]int{0, 1, 1}, 0, api.ErrNone}, {[]int{0, -1, 1}, 0, api.ErrNone}, {[]int{-2, 1, 1}, 1, api.OK},
		{[]int{6, 1, 1, 1}, 2, api.OK}, {[]int{-6, 11, -6, 1}, 3, api.OK}, {[]int{6, -11, 6, -1}, 3, api.OK}, {[]int{1, 1, 1, 1}, 0, api.ErrNone}, {[]int{-1, 3, -3, 1}, 3, api.OK}, {[]int{0, 2, 3, 1}, 0, api.ErrNone}, {[]int{1, 0, 1, 1}, 2, api.OK},
		{[]int{1, -4, 6, -4, 1}, 4, api.OK}, {[]int{-1, 5, -10, 10, -5, 1}, 5, api.OK}, {[]int{1, -5, 10, -10, 5, -1}, 5, api.OK}, {[]int{1, 5, 10, 10, 5, 1}, 0, api.OK}, {[]int{30, 30, 30, 30, 30, 30}, 0, api.ErrNone},
	} {
		if got, e := steady.Right(c.a); got != c.want || e != c.e {
			t.Error(c.a, got, e)
		}
	}
}

// minorOf is the definition of a minor, by the sum over all orders of the columns.
func minorOf(a []int, size int) *big.Int {
	n := len(a) - 1
	sum := new(big.Int)
	columns := make([]int, 0, size)
	var place func(sign int64)
	place = func(sign int64) {
		if len(columns) == size {
			product := big.NewInt(sign)
			for i, column := range columns {
				number := n - 2*column + i + 1
				if number < 0 || number > n {
					return
				}
				product.Mul(product, big.NewInt(int64(a[number])))
			}
			sum.Add(sum, product)
			return
		}
		for column := 1; column <= size; column++ {
			if slices.Contains(columns, column) {
				continue
			}
			next := sign
			for _, other := range columns {
				if other > column {
					next = -next
				}
			}
			columns = append(columns, column)
			place(next)
			columns = columns[:len(columns)-1]
		}
	}
	place(1)
	return sum
}

// TestMinors: P9.2.
func TestMinors(t *testing.T) {
	for _, a := range somePolynomials(3) {
		got, e := steady.Minors(a)
		if e != api.OK || len(got) != len(a)-1 {
			t.Error(a, got, e)
			continue
		}
		for i, minor := range got {
			if want := minorOf(a, i+1); want.Cmp(big.NewInt(minor)) != 0 {
				t.Error(a, i, minor, want)
			}
		}
	}
}

// TestKnownMinors: P9.2.
func TestKnownMinors(t *testing.T) {
	for _, c := range []struct {
		a    []int
		want []int64
	}{
		{[]int{7}, nil},
		{[]int{-7}, nil},
		{[]int{5, 1}, []int64{5}},
		{[]int{5, -1}, []int64{5}},
		{[]int{2, 3, 1}, []int64{3, 6}},
		{[]int{1, 0, 1}, []int64{0, 0}},
		{[]int{1, 2, 3, 1}, []int64{3, 5, 5}},
		{[]int{6, 1, 1, 1}, []int64{1, -5, -30}},
		{[]int{1, 4, 6, 4, 1}, []int64{4, 20, 64, 64}},
		{[]int{1, 5, 10, 10, 5, 1}, []int64{5, 40, 280, 1024, 1024}},
		{[]int{30, 30, 30, 30, 30, 30}, []int64{30, 0, 0, 0, 0}},
		{[]int{-30, -30, -30, 0, 30, -30}, []int64{30, -900, 81000, -4050000, 121500000}},
	} {
		if got, e := steady.Minors(c.a); e != api.OK || !slices.Equal(got, c.want) {
			t.Error(c.a, got, e)
		}
	}
}
