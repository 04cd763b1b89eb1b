package labels

import (
	"slices"
)

const (
	minMarks = 2
	maxMarks = 7
	maxMark  = 25
)

// growth is the beginning of a ruler, the differences of its marks, how many marks it shall have, and the greatest mark that it may have.
type growth struct {
	marks []int
	taken differences
	many  int
	last  int
}

// measured is the differences of the marks, and whether they are a ruler.
func measured(marks []int) (differences, bool) {
	var taken differences
	if len(marks) < minMarks || len(marks) > maxMarks || marks[0] != 0 {
		return differences{}, false
	}
	for i, mark := range marks {
		for _, before := range marks[:i] {
			if mark <= before || mark > maxMark || !taken.take(mark-before) {
				return differences{}, false
			}
		}
	}
	return taken, true
}

// firstFrom is what grow makes of the first number from least to greatest of which it makes a ruler.
func firstFrom(least, greatest int, grow func(int) ([]int, bool)) ([]int, bool) {
	for number := least; number <= greatest; number++ {
		if marks, ok := grow(number); ok {
			return marks, true
		}
	}
	return nil, false
}

// within is the first ruler that grows from this beginning without a mark greater than last.
func (g growth) within(last int) ([]int, bool) {
	g.last = last
	return g.grown()
}

// grown is the first ruler that grows from this beginning.
func (g growth) grown() ([]int, bool) {
	if len(g.marks) > g.many {
		return nil, false
	}
	if len(g.marks) == g.many {
		return g.marks, true
	}
	return firstFrom(g.marks[len(g.marks)-1]+1, g.last, g.with)
}

// with is the first ruler that grows from this beginning and then mark.
func (g growth) with(mark int) ([]int, bool) {
	for _, before := range g.marks {
		if !g.taken.take(mark - before) {
			return nil, false
		}
	}
	// Clipped, the beginning is copied: the marks that come next in its place are not to change what has been grown.
	g.marks = append(slices.Clip(g.marks), mark)
	return g.grown()
}
