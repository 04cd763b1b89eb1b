package shells_test

import (
	"math/bits"
	"testing"

	"girouette/api"
	"girouette/shells"
)

// borders tries all sums of the faces with that many corners. The dimension of their space is all, and closed that of the sums whose border is 0.
func borders(n int, pieces []int, corners int) (all, closed int) {
	var rows []uint64
	for _, f := range facesOf(n, pieces) {
		if many(f) != corners {
			continue
		}
		var row uint64
		for v := 1; v <= f; v *= 2 {
			if part(v, f) {
				row ^= 1 << (f &^ v)
			}
		}
		rows = append(rows, row)
	}
	zeros := 1
	var sum uint64
	// Each number's lowest bit says which face to put in or out, so that all sums come by.
	for i := 1; i < 1<<len(rows); i++ {
		sum ^= rows[bits.TrailingZeros(uint(i))]
		if sum == 0 {
			zeros++
		}
	}
	return len(rows), bits.Len(uint(zeros)) - 1
}

func TestHollows(t *testing.T) {
	eachSmall(5, func(n int, pieces []int) {
		got, e := shells.Hollows(n, pieces)
		most := 0
		for _, p := range pieces {
			most = max(most, many(p))
		}
		if e != api.OK || len(got) != most {
			t.Fatal(n, pieces, got, e)
		}
		for k := range got {
			_, closed := borders(n, pieces, k+1)
			all, zero := borders(n, pieces, k+2)
			if got[k] != closed-(all-zero) {
				t.Error(n, pieces, k, got)
			}
		}
	})
}

func TestHollowsKnown(t *testing.T) {
	for _, c := range []struct {
		n            int
		pieces, want []int
	}{
		{3, ring, []int{0, 1}},
		{4, two, []int{1, 0}},
		{1, []int{1}, []int{0}},
		{3, []int{1, 2, 4}, []int{2}},
		{6, []int{63}, []int{0, 0, 0, 0, 0, 0}},
		{6, []int{31, 47, 55, 59, 61, 62}, []int{0, 0, 0, 0, 1}},
		{5, strip, []int{0, 1, 0}},
		{6, plane, []int{0, 1, 1}},
		{6, []int{3, 5, 6, 56}, []int{1, 1, 0}},
	} {
		if got, e := shells.Hollows(c.n, c.pieces); e != api.OK || !same(got, c.want) {
			t.Error(c.n, c.pieces, got, c.want, e)
		}
	}
}

// TestEulerByHollows: P1.7.
func TestEulerByHollows(t *testing.T) {
	eachSmall(5, func(n int, pieces []int) {
		euler, _ := shells.Euler(n, pieces)
		hollows, _ := shells.Hollows(n, pieces)
		sum, sign := 0, 1
		for _, h := range hollows {
			sum += sign * h
			sign = -sign
		}
		if euler-1 != sum {
			t.Error(n, pieces, euler, hollows)
		}
	})
}

func numberAt(l []int, k int) int {
	if k < 0 || k >= len(l) {
		return 0
	}
	return l[k]
}

// TestDualOfDual: P1.8.
func TestDualOfDual(t *testing.T) {
	found := 0
	eachSmall(5, func(n int, pieces []int) {
		dual, e := shells.Dual(n, pieces)
		if e != api.OK {
			return
		}
		found++
		if back, f := shells.Dual(n, dual); f != api.OK || !same(back, pieces) {
			t.Error(n, pieces, dual, back, f)
		}
		a, _ := shells.Hollows(n, pieces)
		b, f := shells.Hollows(n, dual)
		if f != api.OK {
			t.Error(n, pieces, dual, f)
		}
		for k := -1; k < 7; k++ {
			if numberAt(a, k) != numberAt(b, n-k-3) {
				t.Error(n, pieces, a, dual, b, k)
			}
		}
	})
	if found < 1000 {
		t.Error("few duals", found)
	}
}
