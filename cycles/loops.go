package cycles

import (
	"iter"
	"slices"
)

const (
	minSize = 2
	maxSize = 8
	// maxIntervals is the most intervals of a cycle.
	maxIntervals = maxSize - 1
)

// isCycle is whether one comes from 0 to all the numbers of p, each once, and then back.
func isCycle(p []int) bool {
	if len(p) < minSize || len(p) > maxSize {
		return false
	}
	met := map[int]bool{}
	at := 0
	for at >= 0 && at < len(p) && !met[at] {
		met[at] = true
		at = p[at]
	}
	return at == 0 && len(met) == len(p)
}

// isInterval is whether the number is that of an interval of the cycle.
func isInterval(p []int, number int) bool {
	return number >= 0 && number < len(p)-1
}

// mirrored is the cycle with all numbers counted from the other end.
func mirrored(p []int) []int {
	last := len(p) - 1
	mirrored := make([]int, len(p))
	for i, to := range p {
		mirrored[last-i] = last - to
	}
	return mirrored
}

// covering is which interval covers which: covering[i][k] is whether interval i covers k. What is beyond the cycle's intervals covers nothing, and nothing covers it, so that loops do not come there.
type covering [maxIntervals][maxIntervals]bool

// coveringOf is the covering of the cycle's intervals.
func coveringOf(p []int) covering {
	var c covering
	for i := range len(p) - 1 {
		for k := range len(p) - 1 {
			// One end of interval i goes to k or further down, the other one goes further up.
			c[i][k] = (p[i] <= k) != (p[i+1] <= k)
		}
	}
	return c
}

// ways is numbers of ways: ways[i] is how many there are from interval i on.
type ways [maxIntervals]int64

// before is the ways with one more step in front of them.
func (c covering) before(w ways) ways {
	var longer ways
	for i, row := range c {
		for k, covers := range row {
			if covers {
				longer[i] = sum(longer[i], w[k])
			}
		}
	}
	return longer
}

// waysTo is the ways to an interval, by the number of their steps from 0 to m.
func (c covering) waysTo(interval, m int) []ways {
	var none ways
	none[interval] = 1
	list := []ways{none}
	for steps := range m {
		list = append(list, c.before(list[steps]))
	}
	return list
}

// countLoops is the number of loops of length m.
func (c covering) countLoops(m int) int64 {
	var counts []int64
	for start := range maxIntervals {
		counts = append(counts, c.waysTo(start, m)[m][start])
	}
	return sum(counts...)
}

// loopsFrom runs through the loops of length m from one interval, rising.
func (c covering) loopsFrom(start, m int) iter.Seq[[]int] {
	return func(yield func([]int) bool) {
		back := c.waysTo(start, m)
		loop := []int{start}
		// extend adds to the loop what may come next; it is whether yield wants more.
		var extend func() bool
		extend = func() bool {
			many := len(loop)
			if many == m {
				return yield(slices.Clone(loop))
			}
			for next, covers := range c[loop[many-1]] {
				// What does not lead back in the steps that are left would be followed in vain, through very many lists.
				if !covers || back[m-many][next] == 0 {
					continue
				}
				loop = append(loop, next)
				if !extend() {
					return false
				}
				loop = loop[:many]
			}
			return true
		}
		if back[m][start] > 0 {
			extend()
		}
	}
}

// firstPlain is the first plain loop of length m, if there is one.
func (c covering) firstPlain(m int) ([]int, bool) {
	// repeats is whether a loop is its first part, several times.
	repeats := func(loop []int, part int) bool {
		return m%part == 0 && slices.Equal(loop[part:], loop[:m-part])
	}
	for start := range maxIntervals {
	nextLoop:
		for loop := range c.loopsFrom(start, m) {
			for part := 1; part < m; part++ {
				if repeats(loop, part) {
					continue nextLoop
				}
			}
			return loop, true
		}
	}
	return nil, false
}

// isLoop is whether the list is a loop of the cycle that is not too long.
func isLoop(p, list []int) bool {
	if len(list) < 1 || len(list) > maxLength {
		return false
	}
	for _, interval := range list {
		if !isInterval(p, interval) {
			return false
		}
	}
	c := coveringOf(p)
	last := list[len(list)-1]
	for _, interval := range list {
		if !c[last][interval] {
			return false
		}
		last = interval
	}
	return true
}

// periods is the periods of the cycle.
func periods(p []int) []int {
	var list []int
	c := coveringOf(p)
	for m := 1; m <= maxLength; m++ {
		if _, ok := c.firstPlain(m); ok || m == len(p) {
			list = append(list, m)
		}
	}
	return list
}
