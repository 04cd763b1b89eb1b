package bern

import (
	"slices"
)

const (
	// maxCoefficient is how far from 0 a coefficient may be.
	maxCoefficient = 100
	// maxCorners is the most coefficients of a polynomial, and so the most corners.
	maxCorners = 7
)

// isPolynomial is whether the coefficients are those of a polynomial.
func isPolynomial(p []int) bool {
	if len(p) < 1 || len(p) > maxCorners {
		return false
	}
	return slices.Min(p) >= -maxCoefficient && slices.Max(p) <= maxCoefficient
}

// value is the polynomial at x.
func value(p []int, x fraction) fraction {
	over, under := int64(0), int64(1)
	for _, coefficient := range slices.Backward(p) {
		under *= x.under
		over = sum(over*x.over, int64(coefficient)*under)
	}
	return reduced(over, under)
}

// mirrored is the coefficients of the polynomial at 1 - x.
func mirrored(p []int) []int {
	mirror := make([]int, len(p))
	for i, coefficient := range p {
		for k := range i + 1 {
			sign := 1 - 2*(k%2)
			mirror[k] += sign * choose(i, k) * coefficient
		}
	}
	return mirror
}

// slope is the coefficients of the derivative.
func slope(p []int) []int {
	if len(p) == 1 {
		return []int{0}
	}
	derivative := make([]int, len(p)-1)
	for i := range derivative {
		derivative[i] = (i + 1) * p[i+1]
	}
	return derivative
}

// low is the first end of a piece, the less deep ones first, at which the value is not greater than 0, if there is one.
func low(p []int) (fraction, bool) {
	for depth := range maxDepth + 1 {
		for k := range 1<<depth + 1 {
			end := reduced(int64(k), 1<<depth)
			if value(p, end).over <= 0 {
				return end, true
			}
		}
	}
	return fraction{}, false
}

// isPlain is whether there is a root at no end of a piece.
func isPlain(p []int) bool {
	const ends = 1 << maxDepth
	for k := range ends + 1 {
		if value(p, reduced(int64(k), ends)).over == 0 {
			return false
		}
	}
	return true
}
