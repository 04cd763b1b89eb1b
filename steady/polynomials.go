package steady

import (
	"slices"
)

const (
	// maxCount is the most coefficients of a polynomial.
	maxCount = 6
	// maxHalf is the most coefficients of a half.
	maxHalf = maxCount / 2
	// maxNumber is how far from 0 a coefficient may be.
	maxNumber = 30
)

// areSmall is whether none of the numbers is too far from 0.
func areSmall(numbers []int) bool {
	return !slices.ContainsFunc(numbers, func(number int) bool { return number < -maxNumber || number > maxNumber })
}

// isPolynomial is whether the numbers are the coefficients of a polynomial.
func isPolynomial(a []int) bool {
	return len(a) >= 1 && len(a) <= maxCount && areSmall(a) && a[len(a)-1] != 0
}

// isHalf is whether the numbers may be woven.
func isHalf(numbers []int) bool {
	return len(numbers) <= maxHalf && areSmall(numbers)
}

// trimmed is the numbers without zeros at the end.
func trimmed(numbers []int) []int {
	for len(numbers) > 0 && numbers[len(numbers)-1] == 0 {
		numbers = numbers[:len(numbers)-1]
	}
	return numbers
}

// halves is the even and the odd half of a polynomial.
func halves(a []int) [2][]int {
	var both [2][]int
	for i, coefficient := range a {
		both[i%2] = append(both[i%2], coefficient)
	}
	return [2][]int{trimmed(both[0]), trimmed(both[1])}
}

// woven is the coefficients of which these are the even and the odd ones, without zeros at the end.
func woven(even, odd []int) []int {
	numbers := make([]int, maxCount)
	for i, number := range even {
		numbers[2*i] = number
	}
	for i, number := range odd {
		numbers[2*i+1] = number
	}
	return trimmed(numbers)
}

// sum is all numbers added up.
func sum(numbers ...int) int {
	whole := 0
	for _, number := range numbers {
		whole += number
	}
	return whole
}

// product is the coefficients of the product of two polynomials.
func product(a, b []int) []int {
	coefficients := make([]int, len(a)+len(b)-1)
	for k := range coefficients {
		var products []int
		for i := max(0, k-len(b)+1); i <= min(k, len(a)-1); i++ {
			products = append(products, a[i]*b[k-i])
		}
		coefficients[k] = sum(products...)
	}
	return coefficients
}

// disc is the coefficients of (1 - x)^n a((1 + x) / (1 - x)), n being the degree, if the values of a at 1 and at -1 are not 0.
func disc(a []int) ([]int, bool) {
	n := len(a) - 1
	coefficients := make([]int, n+1)
	for k, coefficient := range a {
		term := []int{coefficient}
		for range k {
			term = product(term, []int{1, 1})
		}
		for range n - k {
			term = product(term, []int{1, -1})
		}
		for i, number := range term {
			coefficients[i] += number
		}
	}
	// The first coefficient is the value at 1, the last one that at -1 or its opposite.
	if coefficients[0] == 0 || coefficients[n] == 0 {
		return nil, false
	}
	return coefficients, true
}
