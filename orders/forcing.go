package orders

import (
	"iter"
	"slices"
)

// forcedBy runs through the arrows of the graph that its arrow a forces, each once.
func (r relation) forcedBy(a arrow) iter.Seq[arrow] {
	return func(yield func(arrow) bool) {
		for node := range maxNodes {
			// No node has an edge to itself, so that the arrow itself is among these.
			if r[a.from][node] && !r[a.to][node] && !yield(arrow{a.from, node}) {
				return
			}
			if node != a.from && r[node][a.to] && !r[node][a.from] && !yield(arrow{node, a.to}) {
				return
			}
		}
	}
}

// forces is whether the arrow x of the graph forces the arrow y.
func (r relation) forces(x, y arrow) bool {
	for forced := range r.forcedBy(x) {
		if forced == y {
			return true
		}
	}
	return false
}

// class is the class of an arrow of the graph.
func (r relation) class(a arrow) relation {
	class := relationOf([][2]int{a.pair()})
	for {
		more := class
		for reached := range class.all() {
			for forced := range r.forcedBy(reached) {
				more[forced.from][forced.to] = true
			}
		}
		if more == class {
			return class
		}
		class = more
	}
}

// classes is the number of the classes of the graph. Arrows force each other, so that no arrow is in two of them.
func (r relation) classes() int {
	many := 0
	var seen relation
	for a := range r.all() {
		if !seen.has(a) {
			seen = joined(seen, r.class(a))
			many++
		}
	}
	return many
}

// isClash is whether the list is a clash of the graph.
func (r relation) isClash(list [][2]int) bool {
	if len(list) == 0 || !r.has(arrowOf(list[0])) {
		return false
	}
	last := arrowOf(list[0])
	for _, pair := range list[1:] {
		next := arrowOf(pair)
		if !r.forces(last, next) {
			return false
		}
		last = next
	}
	return last == arrowOf(list[0]).turned()
}

// findClash looks for a clash of the graph with the fewest arrows.
func (r relation) findClash() ([][2]int, bool) {
	var fewest [][2]int
	// look goes from start to what it forces, the nearest first, until it meets start turned.
	look := func(start arrow) {
		forcing := map[arrow]arrow{start: start}
		queue := []arrow{start}
	search:
		for i := 0; i < len(queue); i++ {
			for forced := range r.forcedBy(queue[i]) {
				if _, ok := forcing[forced]; ok {
					continue
				}
				forcing[forced] = queue[i]
				queue = append(queue, forced)
				if forced == start.turned() {
					break search
				}
			}
		}
		clash, ok := wayTo(start.turned(), forcing)
		if ok && (fewest == nil || len(clash) < len(fewest)) {
			fewest = clash
		}
	}
	for start := range r.all() {
		look(start)
	}
	return fewest, fewest != nil
}

// wayTo is the arrows from the one that is told as forcing itself to last, each told as forcing the next one, if last is told of.
func wayTo(last arrow, forcing map[arrow]arrow) ([][2]int, bool) {
	way := [][2]int{last.pair()}
	for {
		by, ok := forcing[last]
		if !ok {
			return nil, false
		}
		if by == last {
			slices.Reverse(way)
			return way, true
		}
		way = append(way, by.pair())
		last = by
	}
}
