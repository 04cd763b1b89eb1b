package shells

// isPure is whether all pieces have the same number of corners.
func isPure(pieces []int) bool {
	for _, piece := range pieces {
		if size(piece) != size(pieces[0]) {
			return false
		}
	}
	return true
}

// newPart is the set of the corners of piece without which it is a part of one of the pieces before it.
func newPart(piece int, before []int) int {
	part := 0
	for corner := range cornersOf(piece) {
		for _, other := range before {
			if isPart(piece&^corner, other) {
				part = joined(part, corner)
			}
		}
	}
	return part
}

// fits is whether piece may come next in a shelling after the pieces before it. No piece is a part of another one, so the corners that the definition asks for, those by which piece alone goes beyond a piece before it, are those of the new part.
func fits(piece int, before []int) bool {
	part := newPart(piece, before)
	for _, other := range before {
		if isPart(part, other) {
			return false
		}
	}
	return true
}

// arranged is the pieces in that order, and whether it names each of them once.
func arranged(pieces, order []int) ([]int, bool) {
	if len(order) != len(pieces) {
		return nil, false
	}
	var used [maxPieces]bool
	var list []int
	for _, i := range order {
		if i < 0 || i >= len(pieces) || used[i] {
			return nil, false
		}
		used[i] = true
		list = append(list, pieces[i])
	}
	return list, true
}

// shelled is the pieces in that order, and whether it is a shelling.
func shelled(pieces, order []int) ([]int, bool) {
	list, ok := arranged(pieces, order)
	if !ok || !isPure(pieces) {
		return nil, false
	}
	for i, piece := range list {
		if !fits(piece, list[:i]) {
			return nil, false
		}
	}
	return list, true
}

// findShelling looks for a shelling of a pure complex.
func findShelling(pieces []int) ([]int, bool) {
	var order, before []int
	// Whether the rest can follow depends on which pieces came before, not on their order.
	tried := map[[maxPieces]bool]bool{}
	var follow func(used [maxPieces]bool) bool
	follow = func(used [maxPieces]bool) bool {
		if len(order) == len(pieces) {
			return true
		}
		if tried[used] {
			return false
		}
		tried[used] = true
		for i, piece := range pieces {
			if used[i] || !fits(piece, before) {
				continue
			}
			order, before = append(order, i), append(before, piece)
			more := used
			more[i] = true
			if follow(more) {
				return true
			}
			order, before = order[:len(order)-1], before[:len(before)-1]
		}
		return false
	}
	if !follow([maxPieces]bool{}) {
		return nil, false
	}
	return order, true
}
