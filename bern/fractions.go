package bern

// sum is all values added up: integers, or fractions over one denominator by their numerators.
func sum[T int | int64](values ...T) T {
	var whole T
	for _, value := range values {
		whole += value
	}
	return whole
}

// power is the base multiplied with itself that often.
func power(base int64, exponent int) int64 {
	product := int64(1)
	for range exponent {
		product *= base
	}
	return product
}

// choose is the binomial coefficient of n over k.
func choose(n, k int) int {
	ways := 1
	for i := range k {
		// No remainder is lost, as the product so far is the coefficient of n over i + 1, i + 1 times.
		ways = ways * (n - i) / (i + 1)
	}
	return ways
}

// fraction is a number in lowest terms.
type fraction struct {
	over, under int64
}

// middle divides an interval into halves.
var middle = fraction{1, 2}

// divisor is the greatest common divisor of two numbers that are not both 0.
func divisor(a, b int64) int64 {
	for b != 0 {
		a, b = b, a%b
	}
	return max(a, -a)
}

// reduced is the fraction of two numbers of which the second one is greater than 0.
func reduced(over, under int64) fraction {
	common := divisor(over, under)
	return fraction{over / common, under / common}
}

// parts is the fraction as the calls return it.
func (f fraction) parts() [2]int64 {
	return [2]int64{f.over, f.under}
}

// rest is what is left of 1 without the fraction, over the same denominator.
func (f fraction) rest() int64 {
	return f.under - f.over
}

// shareOf is x as a fraction from 0 to 1 with at most that denominator, if it is one.
func shareOf(x [2]int64, mostUnder int64) (fraction, bool) {
	share := fraction{x[0], x[1]}
	if share.under < 1 || share.under > mostUnder || share.over < 0 || share.over > share.under {
		return fraction{}, false
	}
	if share != reduced(share.over, share.under) {
		return fraction{}, false
	}
	return share, true
}
