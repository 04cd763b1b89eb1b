package shifts

// divisor is the greatest common divisor of the numbers, 0 if all of them are 0.
func divisor[T int | int64](numbers ...T) T {
	var common T
	for _, number := range numbers {
		for number != 0 {
			common, number = number, common%number
		}
	}
	return max(common, -common)
}

// hangs is whether the matrix of k states hangs together.
func (a matrix) hangs(k int) bool {
	// A state is reached by at most k ways, if at all. Where one may stay, these can be made just k, of which the last one is the matrix's own.
	staying := a
	for i := range k {
		staying[i][i]++
	}
	reached := repeated(staying.shapeTimes, a.shape(), k-1)
	return reached[k-1] == full(k)
}

// beat is the beat of a matrix of k states that hangs together. Round trips are put together from those that meet no state twice, which have at most k ways.
func (a matrix) beat(k int) int {
	var lengths []int
	for m, trips := range a.powers(k, k) {
		if trips.diagonal() > 0 {
			lengths = append(lengths, m)
		}
	}
	return divisor(lengths...)
}

// mixes is the least number from which on the matrix of k states mixes, if there is one.
func (a matrix) mixes(k int) (int, bool) {
	// By Wielandt's bound it mixes from here on, if at all. Where all states reach all by some ways, so they do by one more.
	bound := (k-1)*(k-1) + 1
	shapes := repeated(a.shapeTimes, one(k), bound)
	from := bound + 1
	for from > 0 && shapes[from-1] == full(k) {
		from--
	}
	if from > bound {
		return 0, false
	}
	return from, true
}
