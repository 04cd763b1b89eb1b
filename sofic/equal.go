package sofic

import (
	"cmp"
	"slices"
)

// twoSets is the nodes at which ways with the same letters end in two nets.
type twoSets struct {
	one, other nodes
}

// toldApart is a shortest word with which ways begin at nodes of just one of two sets, each of a net of its own, if there is one.
func toldApart(start twoSets, one, other arrows) (string, bool) {
	step := func(now twoSets, letter rune) twoSets {
		return twoSets{one.step(now.one, letter), other.step(now.other, letter)}
	}
	isOver := func(now twoSets) bool {
		return (now.one == 0) != (now.other == 0)
	}
	return shortest(start, step, isOver)
}

// differs is a shortest word that just one of two nets writes, if there is one.
func (n arrows) differs(other arrows) (string, bool) {
	return toldApart(twoSets{allOf(n.k), allOf(other.k)}, n, other)
}

// apart is a shortest word with which a way begins at just one node of a pair, if there is one.
func (n arrows) apart(p pair) (string, bool) {
	return toldApart(twoSets{at(p.one), at(p.other)}, n, n)
}

// least is the least of several values.
func least[T cmp.Ordered](first T, others ...T) T {
	for _, other := range others {
		first = min(first, other)
	}
	return first
}

// equals is the nodes that are equal to a node, itself too.
func (n arrows) equals(node int) []int {
	var list []int
	for other := range n.k {
		if _, differ := n.apart(pair{node, other}); !differ {
			list = append(list, other)
		}
	}
	return list
}

// classes is for each node the least one that is equal.
func (n arrows) classes() []int {
	list := make([]int, n.k)
	for node := range list {
		list[node] = least(node, n.equals(node)...)
	}
	return list
}

// formOf is the form of a net.
func formOf(net [][2]int) arrows {
	n := arrowsOf(net)
	classes := n.classes()
	// leasts is the least nodes of the classes, in the order of which these are the nodes of the form.
	leasts := slices.Clone(classes)
	slices.Sort(leasts)
	leasts = slices.Compact(leasts)
	form := withoutArrows(len(leasts))
	for number, node := range leasts {
		for i, t := range n.letters {
			if t[node] != nowhere {
				form.letters[i][number] = slices.Index(leasts, classes[t[node]])
			}
		}
	}
	return form
}
