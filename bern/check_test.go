package bern_test

import (
	"math/big"
	"slices"
	"testing"

	"girouette/api"
	"girouette/bern"
)

// TestCheck: P8.1.
func TestCheck(t *testing.T) {
	for _, p := range somePolynomials(1) {
		if e := bern.Check(p); e != api.OK {
			t.Error(p, e)
		}
	}
	for _, p := range noPolynomials {
		if e := bern.Check(p); e != api.ErrBern {
			t.Error(len(p), e)
		}
	}
}

// TestCheckNumbers: P8.1 and R9, a number in each place of lists of any length.
func TestCheckNumbers(t *testing.T) {
	for size := range 10 {
		want := api.OK
		if size < 1 || size > 7 {
			want = api.ErrBern
		}
		if e := bern.Check(make([]int, size)); e != want {
			t.Error(size, e)
		}
		for place := range size {
			for _, number := range append([]int{-102, -101, -100, -99, 0, 99, 100, 101, 102}, far...) {
				p := make([]int, size)
				p[place] = number
				want := api.OK
				if size > 7 || number < -100 || number > 100 {
					want = api.ErrBern
				}
				if e := bern.Check(p); e != want {
					t.Error(p, e)
				}
			}
		}
	}
}

// shares is all fractions from 0 to 1 with at most that denominator.
func shares(most int64) [][2]int64 {
	var list [][2]int64
	for under := int64(1); under <= most; under++ {
		for over := range under + 1 {
			if isLowest([2]int64{over, under}) {
				list = append(list, [2]int64{over, under})
			}
		}
	}
	return list
}

// TestValue: P8.1.
func TestValue(t *testing.T) {
	all := shares(64)
	for i, p := range somePolynomials(20) {
		for k, x := range all {
			if i > 20 && (i+k)%9 > 0 {
				continue
			}
			if got, e := bern.Value(p, x); got != pair(valueAt(p, rat(x))) || e != api.OK {
				t.Error(p, x, got, e)
			}
		}
	}
}

// TestKnownValues: P8.1, values that are known, the greatest denominators among them.
func TestKnownValues(t *testing.T) {
	for _, c := range []struct {
		p    []int
		x    [2]int64
		want [2]int64
	}{
		{[]int{-1, 3}, [2]int64{1, 2}, [2]int64{1, 2}},
		{[]int{-1, 3}, [2]int64{0, 1}, [2]int64{-1, 1}},
		{[]int{-1, 3}, [2]int64{1, 1}, [2]int64{2, 1}},
		{[]int{-1, 3}, [2]int64{1, 3}, [2]int64{0, 1}},
		{[]int{7}, [2]int64{5, 63}, [2]int64{7, 1}},
		{[]int{0, 0, 0, 0, 0, 0, 1}, [2]int64{1, 64}, [2]int64{1, 1 << 36}},
		{[]int{0, 0, 0, 0, 0, 0, -1}, [2]int64{63, 64}, [2]int64{-62523502209, 1 << 36}},
		{[]int{100, 100, 100, 100, 100, 100, 100}, [2]int64{1, 1}, [2]int64{700, 1}},
		{[]int{0, 0, 0, 0, 0, 0, 100}, [2]int64{1, 61}, [2]int64{100, 51520374361}},
	} {
		if got, e := bern.Value(c.p, c.x); got != c.want || e != api.OK {
			t.Error(c.p, c.x, got, e)
		}
	}
}

// TestValueOfNoNumbers: P8.1 and R9.
func TestValueOfNoNumbers(t *testing.T) {
	for _, p := range known {
		for _, x := range noShares {
			if got, e := bern.Value(p, x); got != [2]int64{} || e != api.ErrArg {
				t.Error(p, x, got, e)
			}
		}
	}
	for over := int64(-3); over <= 70; over++ {
		for under := int64(-70); under <= 70; under++ {
			x := [2]int64{over, under}
			isRight := under >= 1 && under <= 64 && over >= 0 && over <= under && isLowest(x)
			if _, e := bern.Value(known[11], x); (e == api.OK) != isRight || !isRight && e != api.ErrArg {
				t.Error(x, e)
			}
		}
	}
}

// checkResult compares the integers that a call returns with those of the definition, which may be too large.
func checkResult(t *testing.T, p, got []int, e api.Errno, want []*big.Int) {
	t.Helper()
	var list []int
	for _, number := range want {
		if number.CmpAbs(big.NewInt(100)) > 0 {
			if len(got) > 0 || e != api.ErrLarge {
				t.Error(p, got, e, want)
			}
			return
		}
		list = append(list, int(number.Int64()))
	}
	if !slices.Equal(got, list) || e != api.OK {
		t.Error(p, got, e, want)
	}
}

// mirrored is the coefficients of the sum of the products of p[k] and k factors 1 - x.
func mirrored(p []int) []*big.Int {
	whole := make([]*big.Int, len(p))
	for i := range whole {
		whole[i] = new(big.Int)
	}
	factors := []*big.Int{big.NewInt(1)}
	for _, number := range p {
		for i, factor := range factors {
			whole[i].Add(whole[i], new(big.Int).Mul(big.NewInt(int64(number)), factor))
		}
		next := []*big.Int{new(big.Int)}
		for i, factor := range factors {
			next[i].Add(next[i], factor)
			next = append(next, new(big.Int).Neg(factor))
		}
		factors = next
	}
	return whole
}

// TestMirror: P8.1, and W3: a mirror of a mirror is what it was.
func TestMirror(t *testing.T) {
	many, large := 0, 0
	for _, p := range somePolynomials(1) {
		got, e := bern.Mirror(p)
		checkResult(t, p, got, e, mirrored(p))
		if e != api.OK {
			large++
			continue
		}
		many++
		for k := range int64(8) {
			x := big.NewRat(k, 1)
			if valueAt(got, x).Cmp(valueAt(p, new(big.Rat).Sub(big.NewRat(1, 1), x))) != 0 {
				t.Error(p, got, x)
			}
		}
		if again, e := bern.Mirror(got); !slices.Equal(again, p) || e != api.OK {
			t.Error(p, got, again, e)
		}
	}
	if many < 500 || large < 500 {
		t.Error(many, large)
	}
}

// TestSlope: P8.1.
func TestSlope(t *testing.T) {
	for _, p := range somePolynomials(1) {
		got, e := bern.Slope(p)
		want := []*big.Int{}
		for k, number := range p[1:] {
			want = append(want, big.NewInt(int64((k+1)*number)))
		}
		if len(p) == 1 {
			want = []*big.Int{new(big.Int)}
		}
		checkResult(t, p, got, e, want)
	}
}

// TestKnownChanges: P8.1, the last integers that are not too large, and the first ones that are.
func TestKnownChanges(t *testing.T) {
	for _, c := range []struct {
		name string
		do   func(p []int) ([]int, api.Errno)
		p    []int
		want []int
		e    api.Errno
	}{
		{"Mirror", bern.Mirror, []int{-1, 3}, []int{2, -3}, api.OK},
		{"Mirror", bern.Mirror, []int{5}, []int{5}, api.OK},
		{"Mirror", bern.Mirror, []int{5, 0, 0}, []int{5, 0, 0}, api.OK},
		{"Mirror", bern.Mirror, []int{0, 0, 0, 0, 0, 0, 5}, []int{5, -30, 75, -100, 75, -30, 5}, api.OK},
		{"Mirror", bern.Mirror, []int{0, 0, 0, 0, 0, 0, 6}, nil, api.ErrLarge},
		{"Mirror", bern.Mirror, []int{60, 40}, []int{100, -40}, api.OK},
		{"Mirror", bern.Mirror, []int{60, 41}, nil, api.ErrLarge},
		{"Mirror", bern.Mirror, []int{-60, -40}, []int{-100, 40}, api.OK},
		{"Mirror", bern.Mirror, []int{-61, -40}, nil, api.ErrLarge},
		{"Slope", bern.Slope, []int{1, -5, 5}, []int{-5, 10}, api.OK},
		{"Slope", bern.Slope, []int{7}, []int{0}, api.OK},
		{"Slope", bern.Slope, []int{0}, []int{0}, api.OK},
		{"Slope", bern.Slope, []int{7, 3}, []int{3}, api.OK},
		{"Slope", bern.Slope, []int{7, 0}, []int{0}, api.OK},
		{"Slope", bern.Slope, []int{7, 3, 0}, []int{3, 0}, api.OK},
		{"Slope", bern.Slope, []int{0, 100}, []int{100}, api.OK},
		{"Slope", bern.Slope, []int{0, 0, 50}, []int{0, 100}, api.OK},
		{"Slope", bern.Slope, []int{0, 0, 51}, nil, api.ErrLarge},
		{"Slope", bern.Slope, []int{0, 0, -50}, []int{0, -100}, api.OK},
		{"Slope", bern.Slope, []int{0, 0, -51}, nil, api.ErrLarge},
		{"Slope", bern.Slope, []int{100, 100, 50, 33, 25, 20, 16}, []int{100, 100, 99, 100, 100, 96}, api.OK},
		{"Slope", bern.Slope, []int{0, 0, 0, 0, 0, 0, 17}, nil, api.ErrLarge},
	} {
		if got, e := c.do(c.p); !slices.Equal(got, c.want) || e != c.e {
			t.Error(c.name, c.p, got, e)
		}
	}
}
