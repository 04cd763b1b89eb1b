package orders

import (
	"slices"
)

// steps is the relation of all a c with an arrow a b and an arrow b c.
func (r relation) steps() relation {
	var steps relation
	for one := range r.all() {
		for to, in := range r[one.to] {
			steps[one.from][to] = steps[one.from][to] || in
		}
	}
	return steps
}

// isTransitive is whether the relation has with two arrows a b and b c the arrow a c. With an arrow in both directions it would have to go from a node to itself.
func (r relation) isTransitive() bool {
	return r.covers(r.steps())
}

// oriented is an order of the graph, if there is one: the class of an arrow, then that of an arrow of the graph without the edges of that class, and so on (Golumbic). If no class is the same turned, their union is an order; if one is, there is a clash.
func (r relation) oriented() (relation, bool) {
	var parts []relation
	for a, ok := r.first(); ok; a, ok = r.first() {
		class := r.class(a)
		turned := class.turned()
		if class == turned {
			return relation{}, false
		}
		parts = append(parts, class)
		r = r.without(joined(class, turned))
	}
	return joined(parts...), true
}

// countOrders is the number of orders of the graph.
func (r relation) countOrders() int {
	// count is the number of orders that have the chosen arrows and those of the edges left in one direction.
	var count func(chosen, left relation) int
	count = func(chosen, left relation) int {
		// An arrow a c that is asked for must not be missing, or be there in the other direction.
		if !r.without(chosen.turned()).covers(chosen.steps()) {
			return 0
		}
		a, ok := left.first()
		if !ok {
			return 1
		}
		// An order has with an arrow all those of its class.
		class := r.class(a)
		turned := class.turned()
		left = left.without(joined(class, turned))
		return count(joined(chosen, class), left) + count(joined(chosen, turned), left)
	}
	return count(relation{}, r)
}

// layers is for each node the number of arrows of the longest chain that ends there.
func (r relation) layers(n int) []int {
	layers := make([]int, n)
	// No chain has more than n nodes.
	for range n {
		for a := range r.all() {
			layers[a.to] = max(layers[a.to], layers[a.from]+1)
		}
	}
	return layers
}

// chain is a chain of the order with the most nodes: one of each layer.
func (r relation) chain(n int) []int {
	layers := r.layers(n)
	top := slices.Max(layers)
	chain := make([]int, top+1)
	for layer := top; layer >= 0; layer-- {
		for node := range n {
			if layers[node] == layer && (layer == top || r[node][chain[layer+1]]) {
				chain[layer] = node
			}
		}
	}
	return chain
}
