package sofic

import (
	"iter"
)

// isOne is whether a set is of one node.
func isOne(set nodes) bool {
	return set.size() == 1
}

// tells is a shortest word that fixes the node, if there is one.
func (n arrows) tells() (string, bool) {
	return shortest(allOf(n.k), n.step, isOne)
}

// fixAll is whether all words with m letters that are written fix the node.
func (n arrows) fixAll(m int) bool {
	for set := range counted(allOf(n.k), n.step, m) {
		if set != 0 && !isOne(set) {
			return false
		}
	}
	return true
}

// memory is the least m such that all words with m letters that are written fix the node, if there is one.
func (n arrows) memory() (int, bool) {
	// Ways with the same letters that are apart after as many letters as there are sets of two nodes have been at one of these sets twice, and can stay apart for ever.
	for m := range n.k*(n.k-1)/2 + 1 {
		if n.fixAll(m) {
			return m, true
		}
	}
	return 0, false
}

// pairs runs through all pairs of nodes, the lesser one first, rising.
func (n arrows) pairs() iter.Seq[pair] {
	return func(yield func(pair) bool) {
		for one := range n.k {
			for other := one + 1; other < n.k; other++ {
				if !yield(pair{one, other}) {
					return
				}
			}
		}
	}
}

// doubt is a word of one letter or more that leads from both nodes of a pair back to them, and that pair, if there is one.
func (n arrows) doubt() (string, pair, bool) {
	for p := range n.pairs() {
		isBack := func(now pair) bool { return now == p }
		for _, letter := range alphabet {
			back, ok := shortest(n.stepOfPair(p, letter), n.stepOfPair, isBack)
			if ok {
				return string(letter) + back, p, true
			}
		}
	}
	return "", pair{}, false
}
