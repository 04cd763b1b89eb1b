package shifts

import (
	"iter"
	"math/bits"
)

// setsOf runs through the sets of that many rows, or columns; bit i of a set is for the one with number i.
func setsOf(size int) iter.Seq[uint] {
	return func(yield func(uint) bool) {
		for set := range uint(1 << maxStates) {
			if bits.OnesCount(set) == size && !yield(set) {
				return
			}
		}
	}
}

// minor is the determinant of what is in as many rows as columns. Those of the matrices here are too small for an int64 to overflow, which numbers that come up in an elimination need not be.
func (a matrix) minor(rows, columns uint) int64 {
	if rows == 0 {
		return 1
	}
	first := bits.TrailingZeros(rows)
	sign := int64(1)
	var pairs [maxStates][2]int64
	for column, number := range a[first] {
		bit := uint(1) << column
		if columns&bit == 0 {
			continue
		}
		if number != 0 {
			pairs[column] = [2]int64{sign * number, a.minor(rows&^(1<<first), columns&^bit)}
		}
		sign = -sign
	}
	return sumOfProducts(pairs[:]...)
}

// fromOne is 1 less the matrix, where all states that there may be have a 1.
func (a matrix) fromOne() matrix {
	rest := one(maxStates)
	for i, ways := range a {
		for j, many := range ways {
			rest[i][j] -= many
		}
	}
	return rest
}

// determinant is that of 1 - a.
func (a matrix) determinant() int64 {
	const all = 1<<maxStates - 1
	return a.fromOne().minor(all, all)
}

// fixed is the fixed polynomial. In the determinant of 1 - t a, each minor with the same rows as columns stands at t as often as it has rows.
func (a matrix) fixed() []int64 {
	var list []int64
	sign := int64(1)
	for size := range maxStates + 1 {
		var pairs [][2]int64
		for set := range setsOf(size) {
			pairs = append(pairs, [2]int64{sign, a.minor(set, set)})
		}
		list = append(list, sumOfProducts(pairs...))
		sign = -sign
	}
	// The number at t^0 is 1.
	for list[len(list)-1] == 0 {
		list = list[:len(list)-1]
	}
	return list
}

// torsion is the torsion. Operations with rows and columns keep the greatest common divisor of all minors of a size, which is the product of as many of the first numbers of the form; the states that are not there add 1s to it.
func (a matrix) torsion() []int64 {
	rest := a.fromOne()
	var list []int64
	before := int64(1)
	for size := 1; size <= maxStates; size++ {
		var minors []int64
		for rows := range setsOf(size) {
			for columns := range setsOf(size) {
				minors = append(minors, rest.minor(rows, columns))
			}
		}
		product := divisor(minors...)
		number := product
		if before > 0 {
			number = product / before
		}
		if number != 1 {
			list = append(list, number)
		}
		before = product
	}
	return list
}
