package steady

// fraction is a number in lowest terms.
type fraction struct {
	over, under int64
}

// zero is what stands beyond the end of a row.
var zero = fraction{0, 1}

// divisor is the greatest common divisor of two numbers that are not both 0.
func divisor(a, b int64) int64 {
	for b != 0 {
		a, b = b, a%b
	}
	return max(a, -a)
}

// reduced is the fraction of two numbers of which the second one is not 0.
func reduced(over, under int64) fraction {
	common := divisor(over, under)
	if under < 0 {
		common = -common
	}
	return fraction{over / common, under / common}
}

// parts is the fraction as the calls return it.
func (f fraction) parts() [2]int64 {
	return [2]int64{f.over, f.under}
}

// minus is the fraction less another one.
func (f fraction) minus(g fraction) fraction {
	return reduced(f.over*g.under-g.over*f.under, f.under*g.under)
}

// times is the product with another fraction.
func (f fraction) times(g fraction) fraction {
	return reduced(f.over*g.over, f.under*g.under)
}

// per is the quotient with another fraction, which is not 0.
func (f fraction) per(g fraction) fraction {
	return reduced(f.over*g.under, f.under*g.over)
}
