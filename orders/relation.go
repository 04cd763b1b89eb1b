package orders

import (
	"iter"
	"slices"
)

const maxNodes = 7

// arrow goes from a node to another one.
type arrow struct {
	from, to int
}

// arrowOf is a pair as an arrow.
func arrowOf(pair [2]int) arrow {
	return arrow{pair[0], pair[1]}
}

// pair is the arrow as a pair.
func (a arrow) pair() [2]int {
	return [2]int{a.from, a.to}
}

// turned is the arrow in the other direction.
func (a arrow) turned() arrow {
	return arrow{a.to, a.from}
}

// relation is a set of arrows: relation[from][to] is whether it has that arrow. A graph is the relation of all its arrows, in both directions.
type relation [maxNodes][maxNodes]bool

// relationOf is the relation of the pairs as arrows.
func relationOf(pairs [][2]int) relation {
	var r relation
	for _, pair := range pairs {
		r[pair[0]][pair[1]] = true
	}
	return r
}

// graphOf is the graph in which each of the pairs is an edge.
func graphOf(pairs [][2]int) relation {
	r := relationOf(pairs)
	return joined(r, r.turned())
}

// joined is the relation of all arrows of the parts.
func joined(parts ...relation) relation {
	var whole relation
	for _, part := range parts {
		for a := range part.all() {
			whole[a.from][a.to] = true
		}
	}
	return whole
}

// has is whether the arrow, which may have any numbers as its nodes, is in the relation.
func (r relation) has(a arrow) bool {
	return isNode(maxNodes, a.from) && isNode(maxNodes, a.to) && r[a.from][a.to]
}

// all runs through the arrows, rising.
func (r relation) all() iter.Seq[arrow] {
	return func(yield func(arrow) bool) {
		for from, row := range r {
			for to, in := range row {
				if in && !yield(arrow{from, to}) {
					return
				}
			}
		}
	}
}

// first is the first arrow, if there is one.
func (r relation) first() (arrow, bool) {
	for a := range r.all() {
		return a, true
	}
	return arrow{}, false
}

// list is the arrows, rising.
func (r relation) list() [][2]int {
	var list [][2]int
	for a := range r.all() {
		list = append(list, a.pair())
	}
	return list
}

// edges is the edges of a graph, rising.
func (r relation) edges() [][2]int {
	return slices.DeleteFunc(r.list(), func(pair [2]int) bool { return pair[0] > pair[1] })
}

// turned is the relation of all arrows in the other direction.
func (r relation) turned() relation {
	var turned relation
	for a := range r.all() {
		turned[a.to][a.from] = true
	}
	return turned
}

// without is the arrows that are not in the part.
func (r relation) without(part relation) relation {
	for a := range part.all() {
		r[a.from][a.to] = false
	}
	return r
}

// covers is whether the relation has all arrows of the part.
func (r relation) covers(part relation) bool {
	return joined(r, part) == r
}

// others is the graph on n nodes that has an edge where this one does not.
func (r relation) others(n int) relation {
	var full relation
	for i := range n {
		for k := range n {
			full[i][k] = i != k
		}
	}
	return full.without(r)
}

// isNode is whether the number is one of n nodes.
func isNode(n, number int) bool {
	return number >= 0 && number < n
}

// isBefore is whether one pair is less than the other one.
func isBefore(one, other [2]int) bool {
	return slices.Compare(one[:], other[:]) < 0
}

// areRising is whether each pair is of two of n nodes, and greater than the previous one.
func areRising(n int, pairs [][2]int) bool {
	for i, pair := range pairs {
		if !isNode(n, pair[0]) || !isNode(n, pair[1]) || pair[0] == pair[1] {
			return false
		}
		if i > 0 && !isBefore(pairs[i-1], pair) {
			return false
		}
	}
	return true
}

// sortList puts what is before something else first.
func sortList[T any](list []T, isBefore func(one, other T) bool) {
	slices.SortFunc(list, func(one, other T) int {
		switch {
		case isBefore(one, other):
			return -1
		case isBefore(other, one):
			return 1
		}
		return 0
	})
}
