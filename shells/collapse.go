package shells

// collapse takes face and over away, over being the only face that has face as a part and is greater.
type collapse struct {
	face, over int
}

// collapseAt is the collapse that takes face away from a complex, if there is one. A single greater face has just one corner more: the faces of a complex are all parts of its pieces.
func (f family) collapseAt(face int) (collapse, bool) {
	if face < 1 || face >= maxSets || !f[face] {
		return collapse{}, false
	}
	found := collapse{}
	for over := range f.all() {
		if over == face || !isPart(face, over) {
			continue
		}
		if found != (collapse{}) {
			return collapse{}, false
		}
		found = collapse{face, over}
	}
	return found, found != collapse{}
}

// without is what a collapse leaves.
func (f family) without(c collapse) family {
	f[c.face], f[c.over] = false, false
	return f
}

// isCorner is whether the family is one corner and the empty set.
func (f family) isCorner() bool {
	for corner := range cornersOf(maxSets - 1) {
		if f == partsOf(corner) {
			return true
		}
	}
	return false
}

// isHollow is whether one of the hollow numbers is not 0.
func (f family) isHollow() bool {
	for _, many := range f.hollows() {
		if many != 0 {
			return true
		}
	}
	return false
}

// findCollapses looks for collapses that leave one corner of a complex.
func findCollapses(faces family) ([][2]int, bool) {
	// Collapses keep the hollow numbers. Without this test the search could go through very many families in vain.
	if faces.isHollow() {
		return nil, false
	}
	var found [][2]int
	tried := map[family]bool{}
	var follow func(left family) bool
	follow = func(left family) bool {
		done := left.isCorner()
		if done || tried[left] {
			return done
		}
		tried[left] = true
	search:
		for face := range left.all() {
			c, ok := left.collapseAt(face)
			if !ok {
				continue
			}
			found = append(found, [2]int{c.face, c.over})
			if follow(left.without(c)) {
				done = true
				break search
			}
			found = found[:len(found)-1]
		}
		return done
	}
	if !follow(faces) {
		return nil, false
	}
	return found, true
}

// collapsed is what the collapses leave, and whether each of them is a collapse of what is left before it.
func (f family) collapsed(collapses [][2]int) (family, bool) {
	for _, pair := range collapses {
		c, ok := f.collapseAt(pair[0])
		if !ok || c != (collapse{pair[0], pair[1]}) {
			return family{}, false
		}
		f = f.without(c)
	}
	return f, true
}
