package cycles

import (
	"math/bits"
)

// place is where a number is in Sharkovsky's order: it is an odd number, doubled some times.
type place struct {
	doubled, odd int
}

// placeOf is the place of a number from 1 on.
func placeOf(number int) place {
	doubled := bits.TrailingZeros(uint(number))
	return place{doubled, number >> doubled}
}

// comesAfter is whether the second place is further on than the first one.
func comesAfter(first, second place) bool {
	switch {
	case first.odd == 1 || second.odd == 1:
		// 1 and its doubles come behind all others, those doubled most first.
		return second.odd == 1 && (first.odd > 1 || second.doubled < first.doubled)
	case first.doubled != second.doubled:
		return second.doubled > first.doubled
	}
	return second.odd > first.odd
}

// swinging is Stefan's cycle of n numbers, n odd: from the middle one it goes by turns beyond it and below it, further and further away, and from 0, the last one, back to the middle.
func swinging(n int) []int {
	middle := n / 2
	p := []int{middle}
	for i := 1; i < n; i++ {
		// Those up to the middle go one place further beyond it than they are below it; those beyond it go as far below it.
		to := n - i
		if i > middle {
			to--
		}
		p = append(p, to)
	}
	return p
}
