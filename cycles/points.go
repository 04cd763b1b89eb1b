package cycles

import (
	"cmp"
)

const (
	// maxUnder is the greatest denominator of a point.
	maxUnder = 1_000_000
	// maxPeriod is the greatest period that is looked for.
	maxPeriod = 24
)

// sum is all numbers added up.
func sum[T int | int64](numbers ...T) T {
	var whole T
	for _, number := range numbers {
		whole += number
	}
	return whole
}

// least is the least of the numbers.
func least[T cmp.Ordered](first T, others ...T) T {
	for _, other := range others {
		if other < first {
			first = other
		}
	}
	return first
}

// fraction is a number in lowest terms, so that equal ones have equal parts.
type fraction struct {
	over, under int64
}

// reduced is the fraction of two numbers that do not have different signs, and of which the second one is not 0.
func reduced(over, under int64) fraction {
	// The divisor has the sign of the numbers, so that what is left of them has none.
	divisor, rest := over, under
	for rest != 0 {
		divisor, rest = rest, divisor%rest
	}
	return fraction{over / divisor, under / divisor}
}

// parts is the fraction as the calls return it.
func (f fraction) parts() [2]int64 {
	return [2]int64{f.over, f.under}
}

// pointOf is x as a number for which the cycle's map is defined, if it is one.
func pointOf(p []int, x [2]int64) (fraction, bool) {
	point := fraction{x[0], x[1]}
	if point.under < 1 || point.under > maxUnder {
		return fraction{}, false
	}
	if point.over < 0 || point.over > int64(len(p)-1)*point.under {
		return fraction{}, false
	}
	return point, point == reduced(point.over, point.under)
}

// line takes x to slope x + shift.
type line struct {
	slope, shift int
}

// lineOn is what the cycle's map is on an interval.
func lineOn(p []int, interval int) line {
	slope := p[interval+1] - p[interval]
	return line{slope, p[interval] - slope*interval}
}

// after is the line that takes numbers along another one first, and then along this one.
func (l line) after(other line) line {
	return line{l.slope * other.slope, sum(l.slope*other.shift, l.shift)}
}

// at is where the line takes x.
func (l line) at(x fraction) fraction {
	return reduced(sum(int64(l.slope)*x.over, int64(l.shift)*x.under), x.under)
}

// value is where the cycle's map takes x.
func value(p []int, x fraction) fraction {
	// The last number is an end of the last interval.
	interval := least(int(x.over/x.under), len(p)-2)
	return lineOn(p, interval).at(x)
}

// period is the period of x, if it is not too great.
func period(p []int, x fraction) (int, bool) {
	at := x
	for k := 1; k <= maxPeriod; k++ {
		at = value(p, at)
		if at == x {
			return k, true
		}
	}
	return 0, false
}

// follower is a point that follows the loop. Some part of the first interval goes, along the loop, to just all of it, so that a point of that part comes back to where it is.
func follower(p, loop []int) fraction {
	along := line{1, 0}
	for _, interval := range loop {
		along = lineOn(p, interval).after(along)
	}
	if along.slope == 1 {
		// That part is all of the interval, and each point comes back: so does the middle.
		return reduced(int64(2*loop[0]+1), 2)
	}
	// There is one point alone that the line takes to where it is, and it is not negative.
	return reduced(int64(along.shift), int64(1-along.slope))
}
