// Package shells is layer 1, hollow figures put together from flat pieces: complexes, their shellings, collapses and hollow numbers.
package shells

import (
	"girouette/api"
)

// maxGiven is the most sets that Made takes.
const maxGiven = 64

// Check returns whether pieces are a complex on n corners.
func Check(n int, pieces []int) api.Errno {
	if n < 1 || n > maxCorners {
		return api.ErrArg
	}
	if len(pieces) < 1 || len(pieces) > maxPieces {
		return api.ErrShell
	}
	for i, piece := range pieces {
		if piece < 1 || piece >= 1<<n {
			return api.ErrShell
		}
		for _, before := range pieces[:i] {
			if before >= piece || isPart(before, piece) {
				return api.ErrShell
			}
		}
	}
	return api.OK
}

// Faces returns all faces of a complex, rising.
func Faces(n int, pieces []int) ([]int, api.Errno) {
	if e := Check(n, pieces); e != api.OK {
		return nil, e
	}
	return partsOf(pieces...).list(), api.OK
}

// Counts returns the numbers of faces with 0, 1, .. corners.
func Counts(n int, pieces []int) ([]int, api.Errno) {
	if e := Check(n, pieces); e != api.OK {
		return nil, e
	}
	return partsOf(pieces...).counts(), api.OK
}

// Hs returns the h-list.
func Hs(n int, pieces []int) ([]int, api.Errno) {
	if e := Check(n, pieces); e != api.OK {
		return nil, e
	}
	hs := partsOf(pieces...).counts()
	// Horner's rule: what is there times x - 1, and the next count, as often as there are counts.
	for last := range hs {
		for i := last; i > 0; i-- {
			hs[i] -= hs[i-1]
		}
	}
	return hs, api.OK
}

// Euler returns the sum of (-1)^dimension over all faces that are not empty.
func Euler(n int, pieces []int) (int, api.Errno) {
	if e := Check(n, pieces); e != api.OK {
		return 0, e
	}
	sum, sign := 0, 1
	for _, many := range partsOf(pieces...).counts()[1:] {
		sum += sign * many
		sign = -sign
	}
	return sum, api.OK
}

// Shell returns a shelling, if there is one.
func Shell(n int, pieces []int) ([]int, bool, api.Errno) {
	if e := Check(n, pieces); e != api.OK {
		return nil, false, e
	}
	if !isPure(pieces) {
		return nil, false, api.OK
	}
	order, ok := findShelling(pieces)
	return order, ok, api.OK
}

// IsShelling returns whether order is a shelling.
func IsShelling(n int, pieces, order []int) (bool, api.Errno) {
	if e := Check(n, pieces); e != api.OK {
		return false, e
	}
	_, ok := shelled(pieces, order)
	return ok, api.OK
}

// News returns the new part of each piece in a shelling, in its order.
func News(n int, pieces, order []int) ([]int, api.Errno) {
	if e := Check(n, pieces); e != api.OK {
		return nil, e
	}
	list, ok := shelled(pieces, order)
	if !ok {
		return nil, api.ErrArg
	}
	news := make([]int, len(list))
	for i, piece := range list {
		news[i] = newPart(piece, list[:i])
	}
	return news, api.OK
}

// Collapse returns collapses that leave one corner and the empty set, if there are such.
func Collapse(n int, pieces []int) ([][2]int, bool, api.Errno) {
	if e := Check(n, pieces); e != api.OK {
		return nil, false, e
	}
	collapses, ok := findCollapses(partsOf(pieces...))
	return collapses, ok, api.OK
}

// Left returns the faces that the collapses leave, rising, if they are collapses one after the other.
func Left(n int, pieces []int, collapses [][2]int) ([]int, bool, api.Errno) {
	if e := Check(n, pieces); e != api.OK {
		return nil, false, e
	}
	left, ok := partsOf(pieces...).collapsed(collapses)
	return left.list(), ok, api.OK
}

// Hollows returns the hollow numbers, from 0 on.
func Hollows(n int, pieces []int) ([]int, api.Errno) {
	if e := Check(n, pieces); e != api.OK {
		return nil, e
	}
	return partsOf(pieces...).hollows(), api.OK
}

// Link returns the greatest sets that have no corner of face and are a face together with it, rising.
func Link(n int, pieces []int, face int) ([]int, api.Errno) {
	if e := Check(n, pieces); e != api.OK {
		return nil, e
	}
	faces := partsOf(pieces...)
	if face < 0 || face >= maxSets || !faces[face] {
		return nil, api.ErrArg
	}
	return faces.link(face).tops(), api.OK
}

// Dual returns the pieces of the dual.
func Dual(n int, pieces []int) ([]int, api.Errno) {
	if e := Check(n, pieces); e != api.OK {
		return nil, e
	}
	return piecesOf(partsOf(pieces...).dual(n))
}

// Moment returns the pieces of the moment complex of n and d.
func Moment(n, d int) ([]int, api.Errno) {
	if d < 2 || n <= d || n > maxCorners {
		return nil, api.ErrArg
	}
	var pieces []int
	for set := range 1 << n {
		if size(set) == d && isEven(n, set) {
			pieces = append(pieces, set)
		}
	}
	return pieces, api.OK
}

// Made returns the pieces of the complex whose faces are all parts of the sets.
func Made(n int, sets []int) ([]int, api.Errno) {
	if n < 1 || n > maxCorners || len(sets) > maxGiven {
		return nil, api.ErrArg
	}
	for _, set := range sets {
		if set < 0 || set >= 1<<n {
			return nil, api.ErrArg
		}
	}
	return piecesOf(partsOf(sets...))
}

// piecesOf is the greatest sets of a family, rising, if they can be the pieces of a complex.
func piecesOf(f family) ([]int, api.Errno) {
	tops := f.tops()
	if len(tops) == 0 || tops[0] == 0 {
		return nil, api.ErrNone
	}
	if len(tops) > maxPieces {
		return nil, api.ErrLarge
	}
	return tops, api.OK
}

// isEven is whether the number of corners of the set between any two corners that are not in it is even. It is so for any two if it is for neighbours among them.
func isEven(n, set int) bool {
	outside, between := false, 0
	for corner := range n {
		if isPart(1<<corner, set) {
			between++
			continue
		}
		if outside && between%2 != 0 {
			return false
		}
		outside, between = true, 0
	}
	return true
}
