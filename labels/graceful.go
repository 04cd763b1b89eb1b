package labels

import (
	"iter"
	"slices"
)

// differences is which differences are taken. It is an array so that a copy of it takes more of them without the others' knowing.
type differences [maxMark + 1]bool

// take takes a difference, if nobody has before.
func (d *differences) take(difference int) bool {
	if d[difference] {
		return false
	}
	d[difference] = true
	return true
}

// difference is the greater of two labels less the lesser.
func difference(one, other int) int {
	least, greatest := ends(one, other)
	return greatest - least
}

// areGraceful is whether labels are graceful labels of the graph.
func areGraceful(n int, edges [][2]int, labels []int) bool {
	if len(labels) != n {
		return false
	}
	for node, label := range labels {
		if label < 0 || label > len(edges) || slices.Contains(labels[:node], label) {
			return false
		}
	}
	// The differences are from 1 to the number of edges: if none comes twice, each comes once.
	var taken differences
	for _, edge := range edges {
		if !taken.take(difference(labels[edge[0]], labels[edge[1]])) {
			return false
		}
	}
	return true
}

// allLabels runs through the graceful labels of a graph, rising.
func allLabels(n int, edges [][2]int) iter.Seq[[]int] {
	return func(yield func([]int) bool) {
		labels := make([]int, 0, n)
		// give labels the next node, and all after it; it is whether yield wants more.
		var give func(taken differences) bool
		give = func(taken differences) bool {
			node := len(labels)
			if node == n {
				return yield(slices.Clone(labels))
			}
		nextLabel:
			for label := range len(edges) + 1 {
				if slices.Contains(labels, label) {
					continue
				}
				now := taken
				for _, edge := range edges {
					// The other end of an edge that ends here has a label already.
					if edge[1] == node && !now.take(difference(label, labels[edge[0]])) {
						continue nextLabel
					}
				}
				labels = append(labels, label)
				if !give(now) {
					return false
				}
				labels = labels[:node]
			}
			return true
		}
		give(differences{})
	}
}

// firstThatPart is the first graceful labels that part, if there are any.
func firstThatPart(n int, edges [][2]int) ([]int, bool) {
	for labels := range allLabels(n, edges) {
		if _, ok := partedBy(edges, labels); ok {
			return labels, true
		}
	}
	return nil, false
}

// partedBy is the least number by which labels part, if they do: the greatest of the edges' lesser labels, if all the greater ones are above it.
func partedBy(edges [][2]int, labels []int) (int, bool) {
	var lesser, greater []int
	for _, edge := range edges {
		least, greatest := ends(labels[edge[0]], labels[edge[1]])
		lesser = append(lesser, least)
		greater = append(greater, greatest)
	}
	_, c := ends(lesser[0], lesser[1:]...)
	above, _ := ends(greater[0], greater[1:]...)
	if above <= c {
		return 0, false
	}
	return c, true
}
