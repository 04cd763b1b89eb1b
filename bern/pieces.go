package bern

import (
	"iter"
	"slices"
)

// maxDepth is the greatest depth of a piece.
const maxDepth = 6

// piece is the interval with that number, from the left, of those that [0, 1] is cut into by halving it depth times.
type piece struct {
	depth, number int
}

// whole is [0, 1].
var whole = piece{0, 0}

// pieceOf is the piece of a pair, if it is one.
func pieceOf(pair [2]int) (piece, bool) {
	p := piece{pair[0], pair[1]}
	if p.depth < 0 || p.depth > maxDepth || p.number < 0 || p.number >= 1<<p.depth {
		return piece{}, false
	}
	return p, true
}

// partsOf is pieces as the calls return them.
func partsOf(pieces []piece) [][2]int {
	list := make([][2]int, len(pieces))
	for i, p := range pieces {
		list[i] = [2]int{p.depth, p.number}
	}
	return list
}

// parent is the piece of which this one is a half.
func (p piece) parent() piece {
	return piece{p.depth - 1, p.number / 2}
}

// halves runs through the left half, as number 0, and the right one, as number 1.
func (p piece) halves() iter.Seq2[int, piece] {
	return func(yield func(int, piece) bool) {
		for side := range 2 {
			if !yield(side, piece{p.depth + 1, 2*p.number + side}) {
				return
			}
		}
	}
}

// covering is pieces that cover [0, 1] just once, from left to right, if there are such: each of them is chosen, and no piece around it is.
func covering(isChosen func(p piece) bool) ([]piece, bool) {
	var list []piece
	// cover adds the pieces that cover p; it is whether there are such.
	var cover func(p piece) bool
	cover = func(p piece) bool {
		isCovered := true
	search:
		switch {
		case isChosen(p):
			list = append(list, p)
		case p.depth == maxDepth:
			isCovered = false
		default:
			for _, half := range p.halves() {
				if !cover(half) {
					isCovered = false
					break search
				}
			}
		}
		return isCovered
	}
	if !cover(whole) {
		return nil, false
	}
	return list, true
}

// curve is a polynomial, by its corners on [0, 1] and on the pieces that have been cut.
type curve struct {
	known map[piece]polygon
}

// curveOf is the curve of a polynomial.
func curveOf(p []int) curve {
	return curve{map[piece]polygon{whole: polygonOf(p)}}
}

// on is the corners on a piece.
func (c curve) on(p piece) polygon {
	if g, ok := c.known[p]; ok {
		return g
	}
	parent := p.parent()
	cut := c.on(parent).cut(middle)
	for side, half := range parent.halves() {
		c.known[half] = cut[side]
	}
	return c.known[p]
}

// proof is a proof that the curve is positive, if there is one. Halves of a piece with positive corners have such corners too, so that it is enough to try pieces before their halves.
func (c curve) proof() ([]piece, bool) {
	return covering(func(p piece) bool { return c.on(p).isPositive() })
}

// isProof is whether the pieces are a proof that the curve is positive: each of them is the one that comes next, or else nothing covers what does.
func (c curve) isProof(pieces [][2]int) bool {
	used := 0
	_, covered := covering(func(p piece) bool {
		if used == len(pieces) || p != (piece{pieces[used][0], pieces[used][1]}) || !c.on(p).isPositive() {
			return false
		}
		used++
		return true
	})
	return covered && used == len(pieces)
}

// roots is the pieces of a reading that have one root, if there is a reading. Halves do not have more changes than the piece, so that it is enough to try pieces before their halves.
func (c curve) roots() ([]piece, bool) {
	reading, ok := covering(func(p piece) bool { return c.on(p).changes() <= 1 })
	return slices.DeleteFunc(reading, func(p piece) bool { return c.on(p).changes() == 0 }), ok
}
