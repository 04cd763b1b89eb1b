package orders

// before is the relation of all pairs of nodes of which the first one comes first in the line, and whether the line has each of n nodes once.
func before(n int, line []int) (relation, bool) {
	var r relation
	var seen [maxNodes]bool
	if len(line) != n {
		return relation{}, false
	}
	for i, node := range line {
		if !isNode(n, node) || seen[node] {
			return relation{}, false
		}
		seen[node] = true
		for _, other := range line[:i] {
			r[other][node] = true
		}
	}
	return r, true
}

// agreed is the relation of all pairs of nodes of which the first one comes first in both lines, and whether these are two lists of all nodes.
func agreed(n int, lines [2][]int) (relation, bool) {
	if n < 1 || n > maxNodes {
		return relation{}, false
	}
	one, ok := before(n, lines[0])
	other, too := before(n, lines[1])
	if !ok || !too {
		return relation{}, false
	}
	return one.without(other.turned()), true
}

// lineOf is the line of n nodes that is told by a relation that has each pair of them in one direction and is transitive.
func lineOf(n int, r relation) []int {
	line := make([]int, n)
	for node := range n {
		line[node] = node
	}
	sortList(line, func(one, other int) bool { return r[one][other] })
	return line
}

// twoLines is two lines that agree about the arrows of the order along, and not about those of the order across, of a graph and its others. An order of a graph and one of its others have no way round together: of three arrows two are of the same order, which has the third one in the other direction.
func twoLines(n int, along, across relation) [2][]int {
	return [2][]int{lineOf(n, joined(along, across)), lineOf(n, joined(along, across.turned()))}
}
