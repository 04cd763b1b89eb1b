package steady

// patterns is the corners, each by the bounds that its coefficients are: l for those of lo, h for those of hi.
var patterns = [4]string{"llhhll", "hhllhh", "lhhllh", "hllhhl"}

// bounds is the least and the greatest coefficients of polynomials.
type bounds struct {
	lo, hi []int
}

// areBounds is whether two lists of one length are bounds.
func areBounds(lo, hi []int) bool {
	for i := range lo {
		if lo[i] > hi[i] {
			return false
		}
	}
	return areSmall(lo) && areSmall(hi) && lo[len(lo)-1] > 0
}

// corner is the polynomial of a pattern.
func (b bounds) corner(pattern string) []int {
	corner := make([]int, len(b.lo))
	for i, letter := range pattern[:len(corner)] {
		if letter == 'l' {
			corner[i] = b.lo[i]
		} else {
			corner[i] = b.hi[i]
		}
	}
	return corner
}

// corners is the four corners.
func (b bounds) corners() [4][]int {
	var list [4][]int
	for i, pattern := range patterns {
		list[i] = b.corner(pattern)
	}
	return list
}

// fault is a corner that is not steady, if there is one. If there is none, all polynomials within the bounds are steady.
func (b bounds) fault() ([]int, bool) {
	for _, corner := range b.corners() {
		if !isSteady(corner) {
			return corner, true
		}
	}
	return nil, false
}
