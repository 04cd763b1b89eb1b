package shifts

const (
	// maxFactor is the greatest number of a matrix of which two are multiplied.
	maxFactor = 4
	// lastState is the last state that there may be.
	lastState = maxStates - 1
)

// split is how the ways from a state are shared out: those that it keeps, and those from the new state.
type split struct {
	kept, given row
}

// splitOf is the split of the ways from one of k states by a list of those that it keeps, if there is one.
func splitOf(ways row, k int, list []int) (split, bool) {
	if len(list) != k {
		return split{}, false
	}
	var parts split
	for to, kept := range list {
		if kept < 0 || int64(kept) > ways[to] {
			return split{}, false
		}
		parts.kept[to] = int64(kept)
		parts.given[to] = ways[to] - int64(kept)
	}
	return parts, parts != split{kept: ways} && parts != split{given: ways}
}

// splitAt is the matrix of k states, and of one state more with which a state shares its ways.
func (a matrix) splitAt(state, k int, parts split) matrix {
	a[state], a[k] = parts.kept, parts.given
	for from := range a {
		a[from][k] = a[from][state]
	}
	return a
}

// merged is the matrix in which the ways from a state are joined by those from another one, and that one is left out.
func (a matrix) merged(state, other int) matrix {
	for to, many := range a[other] {
		a[state][to] += many
	}
	copy(a[other:], a[other+1:])
	a[lastState] = row{}
	for from := range a {
		copy(a[from][other:], a[from][other+1:])
		a[from][lastState] = 0
	}
	return a
}
