package labels

import (
	"cmp"
	"slices"
)

const (
	maxNodes = 7
	maxEdges = 10
)

// isEdge is whether edge joins two of n nodes, the lesser one first.
func isEdge(n int, edge [2]int) bool {
	return edge[0] >= 0 && edge[0] < edge[1] && edge[1] < n
}

// isBefore is whether one edge is less than the other one.
func isBefore(one, other [2]int) bool {
	return slices.Compare(one[:], other[:]) < 0
}

// ends is the least and the greatest of the values.
func ends[T cmp.Ordered](first T, others ...T) (T, T) {
	least, greatest := first, first
	for _, other := range others {
		least, greatest = min(least, other), max(greatest, other)
	}
	return least, greatest
}

// degrees is how many edges each node has.
func degrees(edges [][2]int) [maxNodes]int {
	var many [maxNodes]int
	for _, edge := range edges {
		many[edge[0]]++
		many[edge[1]]++
	}
	return many
}

// isConnected is whether ways lead from node 0 to all other ones.
func isConnected(n int, edges [][2]int) bool {
	reached := [maxNodes]bool{true}
	// Each time through the edges reaches one more node, as long as there are such.
	for range n {
		for _, edge := range edges {
			if reached[edge[0]] || reached[edge[1]] {
				reached[edge[0]], reached[edge[1]] = true, true
			}
		}
	}
	return !slices.Contains(reached[:n], false)
}

// isCaterpillar is whether the graph is a tree of which a way is left without the nodes with one edge.
func isCaterpillar(n int, edges [][2]int) bool {
	if len(edges) != n-1 || !isConnected(n, edges) {
		return false
	}
	many := degrees(edges)
	var left [][2]int
	for _, edge := range edges {
		if many[edge[0]] > 1 && many[edge[1]] > 1 {
			left = append(left, edge)
		}
	}
	// What is left of a tree is a tree: it is a way if no node of it has three edges.
	leftDegrees := degrees(left)
	_, most := ends(0, leftDegrees[:]...)
	return most <= 2
}
