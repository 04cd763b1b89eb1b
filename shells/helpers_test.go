package shells_test

import (
	"math/bits"
	"slices"
	"sync"
	"testing"

	"girouette/api"
	"girouette/shells"
)

// ring, two, strip and plane: three edges in a ring; two edges apart; a strip that is turned once and closed; the projective plane.
var (
	ring  = []int{3, 5, 6}
	two   = []int{3, 12}
	strip = []int{7, 14, 19, 25, 28}
	plane = []int{11, 13, 21, 22, 26, 35, 38, 44, 49, 56}
)

func part(a, b int) bool { return a&^b == 0 }

func many(set int) int { return bits.OnesCount(uint(set)) }

func same(a, b []int) bool { return slices.Equal(a, b) }

func isFace(pieces []int, set int) bool {
	return slices.ContainsFunc(pieces, func(p int) bool { return part(set, p) })
}

// facesOf is all faces by their definition.
func facesOf(n int, pieces []int) []int {
	var l []int
	for s := range 1 << n {
		if isFace(pieces, s) {
			l = append(l, s)
		}
	}
	return l
}

// eulerOf is the sum of (-1)^dimension over the faces that are not empty.
func eulerOf(faces []int) int {
	sum := 0
	for _, f := range faces {
		if f > 0 {
			sum += 1 - (many(f)-1)%2*2
		}
	}
	return sum
}

// greatest is those of the sets that are a part of no other one, rising.
func greatest(sets []int) []int {
	var l []int
	for _, s := range sets {
		if !slices.Contains(l, s) && !slices.ContainsFunc(sets, func(o int) bool { return o != s && part(s, o) }) {
			l = append(l, s)
		}
	}
	slices.Sort(l)
	return l
}

// complexesOn is all complexes on n corners.
func complexesOn(n int) [][]int {
	var all [][]int
	var grow func(l []int, from int)
	grow = func(l []int, from int) {
		if len(l) > 0 && len(l) <= 10 {
			all = append(all, slices.Clone(l))
		}
		for s := from; s < 1<<n; s++ {
			if !slices.ContainsFunc(l, func(p int) bool { return part(p, s) }) {
				grow(append(l, s), s+1)
			}
		}
	}
	grow(nil, 1)
	return all
}

var small = sync.OnceValue(func() [6][][]int {
	var l [6][][]int
	for n := 1; n <= 5; n++ {
		l[n] = complexesOn(n)
	}
	return l
})

// eachSmall calls do for all complexes on from 1 to most corners, and for some on six.
func eachSmall(most int, do func(n int, pieces []int)) {
	for n := 1; n <= most; n++ {
		for _, pieces := range small()[n] {
			do(n, pieces)
		}
	}
	for _, pieces := range onSix() {
		do(6, pieces)
	}
}

func onSix() [][]int {
	return [][]int{
		{1}, {63}, {1, 2, 4, 8, 16, 32}, {31, 32}, {7, 56}, {7, 25, 42, 52}, plane,
		{31, 47, 55, 59, 61, 62}, {15, 51, 60}, {15, 23, 39, 40, 48}, {3, 6, 12, 24, 33, 48},
		{7, 11, 13, 14, 48}, {15, 23, 27, 29, 30, 48}, {7, 14, 28, 35, 49, 56}, {31, 34, 36, 40, 48},
	}
}

func TestNumberOfSmallComplexes(t *testing.T) {
	// Dedekind's numbers less 2: none of these has more than 10 pieces.
	for n, want := range []int{0, 1, 4, 18, 166, 7579} {
		if got := len(small()[n]); n > 0 && got != want {
			t.Error(n, got, want)
		}
	}
	for _, pieces := range onSix() {
		if e := shells.Check(6, pieces); e != api.OK {
			t.Error(pieces, e)
		}
	}
}
