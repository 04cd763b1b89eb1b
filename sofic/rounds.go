package sofic

// lasts is whether words with the table can be written again and again.
func (t table) lasts() bool {
	set := allOf(maxNodes)
	// A way that goes on as often as there are nodes is twice at one of them, and can go on for ever.
	for range maxNodes {
		set = t.image(set)
	}
	return set != 0
}

// rounds is the number of round words of length m.
func (n arrows) rounds(m int) int {
	sum := 0
	for t, many := range counted(tableOf(n.k), n.stepOfTable, m) {
		if t.lasts() {
			sum += many
		}
	}
	return sum
}

// sign is that of the table's exchange of the nodes of a set, times that of the set, which is 1 if it has an odd number of nodes and otherwise -1.
func (t table) sign(set nodes) int {
	sign := -1
	for node, to := range t {
		if !set.has(node) {
			continue
		}
		sign = -sign
		// The exchanges are as many as the nodes that change their order with a lesser one, or more by an even number.
		for lesser, other := range t[:node] {
			if set.has(lesser) && other > to {
				sign = -sign
			}
		}
	}
	return sign
}

// signed is the sum of the signs of all sets of nodes that words of m letters exchange.
func (n arrows) signed(m int) int {
	sum := 0
	for t, many := range counted(tableOf(n.k), n.stepOfTable, m) {
		for set := nodes(1); set <= allOf(n.k); set++ {
			if t.image(set) == set {
				sum += many * t.sign(set)
			}
		}
	}
	return sum
}
