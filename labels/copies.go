package labels

import (
	"iter"
)

const (
	maxSize   = 2*maxEdges + 1
	maxCopies = 40
	maxCopied = 20 // edges of one copy
)

// pair is two nodes, a key of maps.
type pair struct {
	lesser, greater int
}

// allCopies runs through the copies of graceful labels.
func allCopies(edges [][2]int, labels []int) iter.Seq[[][2]int] {
	return func(yield func([][2]int) bool) {
		size := 2*len(edges) + 1
		for t := range size {
			copied := make([][2]int, len(edges))
			for i, edge := range edges {
				least, greatest := ends((labels[edge[0]]+t)%size, (labels[edge[1]]+t)%size)
				copied[i] = [2]int{least, greatest}
			}
			if !yield(copied) {
				return
			}
		}
	}
}

// coversAll is whether each pair of size nodes is an edge of the copies just once.
func coversAll(size int, copies [][][2]int) bool {
	seen := map[pair]bool{}
	for _, edges := range copies {
		for _, edge := range edges {
			nodes := pair{edge[0], edge[1]}
			if seen[nodes] {
				return false
			}
			seen[nodes] = true
		}
	}
	return len(seen) == size*(size-1)/2
}
