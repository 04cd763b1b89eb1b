package steady

import (
	"slices"
)

// determinant is that of a square of so many rows and columns, by its elements.
func determinant[T int | int64](size int, element func(row, column int) T) T {
	// below is the determinant of the rows from this one on and the columns that are not taken.
	var below func(row int, taken uint) T
	below = func(row int, taken uint) T {
		if row == size {
			return 1
		}
		var whole T
		sign := T(1)
		for column := range size {
			if taken>>column&1 == 0 {
				whole += sign * element(row, column) * below(row+1, taken|1<<column)
				sign = -sign
			}
		}
		return whole
	}
	return below(0, 0)
}

// minors is the minors of a polynomial. Coefficients of a disc, which are at most 840, leave them far below what int64 has no room for.
func minors(a []int) []int64 {
	n := len(a) - 1
	element := func(row, column int) int64 {
		number := n - 2*column + row - 1
		if number < 0 || number > n {
			return 0
		}
		return int64(a[number])
	}
	list := make([]int64, n)
	for i := range list {
		list[i] = determinant(i+1, element)
	}
	return list
}

// isSteady is whether all roots of a polynomial are to the left: whether all minors are greater than 0 when the last coefficient is.
func isSteady(a []int) bool {
	if a[len(a)-1] < 0 {
		a = product(a, []int{-1})
	}
	return !slices.ContainsFunc(minors(a), func(minor int64) bool { return minor <= 0 })
}
