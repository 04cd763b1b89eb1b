package shells

import (
	"iter"
	"slices"
)

const (
	maxCorners = 6
	maxPieces  = 10
	maxSets    = 1 << maxCorners
)

// family is a set of sets of corners: family[set] is whether set is in it. It is an array so that families can be compared and be keys of maps.
type family [maxSets]bool

// size is the number of corners of a set.
func size(set int) int {
	many := 0
	for corner := range maxCorners {
		many += set >> corner & 1
	}
	return many
}

// isPart is whether all corners of part are in whole.
func isPart(part, whole int) bool {
	return part&^whole == 0
}

// joined is the set of all corners of the sets.
func joined(sets ...int) int {
	all := 0
	for _, set := range sets {
		all |= set
	}
	return all
}

// cornersOf runs through the corners of a set, each as a set of its own.
func cornersOf(set int) iter.Seq[int] {
	return func(yield func(int) bool) {
		for i := range maxCorners {
			corner := 1 << i
			if isPart(corner, set) && !yield(corner) {
				return
			}
		}
	}
}

// partsOf is the family of all parts of the sets.
func partsOf(sets ...int) family {
	var parts family
	for part := range parts {
		for _, set := range sets {
			parts[part] = parts[part] || isPart(part, set)
		}
	}
	return parts
}

// all runs through the sets of the family, rising.
func (f family) all() iter.Seq[int] {
	return func(yield func(int) bool) {
		for set, in := range f {
			if in && !yield(set) {
				return
			}
		}
	}
}

// list is the sets of the family, rising.
func (f family) list() []int {
	return slices.Collect(f.all())
}

// tops is the sets of the family that are a part of no other one, rising.
func (f family) tops() []int {
	var tops []int
next:
	for set := range f.all() {
		for other := range f.all() {
			if other != set && isPart(set, other) {
				continue next
			}
		}
		tops = append(tops, set)
	}
	return tops
}

// counts is the list of the numbers of sets with 0, 1, .. corners, up to the most that one has.
func (f family) counts() []int {
	var counts []int
	for set := range f.all() {
		many := size(set)
		for len(counts) <= many {
			counts = append(counts, 0)
		}
		counts[many]++
	}
	return counts
}

// dual is the family of the sets of n corners whose complement is not in the family.
func (f family) dual(n int) family {
	var dual family
	whole := 1<<n - 1
	for set := range whole + 1 {
		dual[set] = !f[whole&^set]
	}
	return dual
}

// link is the family of the sets without a corner of face that are in the family when joined with it.
func (f family) link(face int) family {
	var link family
	for set := range f.all() {
		link[set] = set&face == 0 && f[joined(set, face)]
	}
	return link
}
