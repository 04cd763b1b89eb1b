package bern

import (
	"slices"
)

const (
	// wholeUnder is divided by the binomial coefficients of all degrees, so that it is a denominator of all corners on [0, 1].
	wholeUnder = 60
	// givenUnder is divided by the denominators of all corners that are arguments.
	givenUnder = 240
	// maxOver is how far from 0 the numerator of a corner may be that is an argument.
	maxOver = 1_000_000
)

// polygon is the corners of a polynomial on an interval, by their numerators over one denominator. Pieces are cut at most six times from [0, 1], and given corners once, so that the numbers stay far below those that int64 has no room for.
type polygon struct {
	overs []int64
	under int64
}

// polygonOf is the corners of a polynomial on [0, 1].
func polygonOf(p []int) polygon {
	g := polygon{make([]int64, len(p)), wholeUnder}
	for i := range p {
		var terms []int
		for k, coefficient := range p[:i+1] {
			share := wholeUnder / choose(len(p)-1, k) * choose(i, k)
			terms = append(terms, share*coefficient)
		}
		g.overs[i] = int64(sum(terms...))
	}
	return g
}

// isCorner is whether a pair is a corner that calls take.
func isCorner(x [2]int64) bool {
	over, under := x[0], x[1]
	if over < -maxOver || over > maxOver || under < 1 || givenUnder%under != 0 {
		return false
	}
	return divisor(over, under) == 1
}

// givenPolygon is a list of corners that is an argument, if it is right.
func givenPolygon(corners [][2]int64) (polygon, bool) {
	if len(corners) < 1 || len(corners) > maxCorners {
		return polygon{}, false
	}
	g := polygon{make([]int64, len(corners)), givenUnder}
	for i, corner := range corners {
		if !isCorner(corner) {
			return polygon{}, false
		}
		g.overs[i] = corner[0] * (givenUnder / corner[1])
	}
	return g, true
}

// parts is the corners as the calls return them.
func (g polygon) parts() [][2]int64 {
	list := make([][2]int64, len(g.overs))
	for i, over := range g.overs {
		list[i] = reduced(over, g.under).parts()
	}
	return list
}

// raised is the corners of the same polynomial as one of a degree 1 greater.
func (g polygon) raised() polygon {
	count := len(g.overs)
	higher := polygon{make([]int64, count+1), g.under * int64(count)}
	for i, over := range g.overs {
		higher.overs[i] += over * int64(count-i)
		higher.overs[i+1] += over * int64(i+1)
	}
	return higher
}

// mixed turns a row into the next one, which is one shorter: each number is mixed with the one after it, in the shares that x and the rest of 1 give them.
func mixed(row []int64, x fraction) []int64 {
	last := len(row) - 1
	for i := range last {
		row[i] = sum(x.rest()*row[i], x.over*row[i+1])
	}
	return row[:last:last]
}

// cut is the corners on both parts of the interval when x divides it as it divides [0, 1].
func (g polygon) cut(x fraction) [2]polygon {
	count := len(g.overs)
	var numbers [maxCorners]int64
	copy(numbers[:], g.overs)
	under := g.under * power(x.under, count-1)
	left, right := polygon{make([]int64, count), under}, polygon{make([]int64, count), under}
	for row := numbers[:count:count]; len(row) > 0; row = mixed(row, x) {
		last := len(row) - 1
		// Each row before the last one lacks a factor of the denominator more.
		lacking := power(x.under, last)
		left.overs[count-len(row)] = row[0] * lacking
		right.overs[last] = row[last] * lacking
	}
	return [2]polygon{left, right}
}

// at is the value where x divides the interval as it divides [0, 1].
func (g polygon) at(x fraction) fraction {
	right := g.cut(x)[1]
	return reduced(right.overs[0], right.under)
}

// changes is the changes of the corners.
func (g polygon) changes() int {
	changes := 0
	before := int64(0)
	for _, over := range g.overs {
		if before < 0 && over > 0 || before > 0 && over < 0 {
			changes++
		}
		if over != 0 {
			before = over
		}
	}
	return changes
}

// isPositive is whether all corners are greater than 0.
func (g polygon) isPositive() bool {
	return slices.Min(g.overs) > 0
}
