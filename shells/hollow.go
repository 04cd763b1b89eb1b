package shells

// row is a sum (modulo 2) of sets of corners: bit i is for the set i.
type row uint64

// border is the sum of the parts of a face with one corner less.
func border(face int) row {
	var sum row
	for corner := range cornersOf(face) {
		sum ^= 1 << (face &^ corner)
	}
	return sum
}

// rank is the dimension of the space of the sums (modulo 2, bit by bit) of the rows, which it changes.
func rank[T ~uint8 | ~uint16 | ~uint32 | ~uint64](rows []T) int {
	many := 0
	for i := range rows {
		pivot := rows[i]
		if pivot == 0 {
			continue
		}
		many++
		lowest := pivot & -pivot
		for j := i + 1; j < len(rows); j++ {
			if rows[j]&lowest != 0 {
				rows[j] ^= pivot
			}
		}
	}
	return many
}

// borderRank is the dimension of the space of the borders of all sums of faces with that many corners.
func (f family) borderRank(corners int) int {
	var rows []row
	for face := range f.all() {
		if size(face) == corners {
			rows = append(rows, border(face))
		}
	}
	return rank(rows)
}

// hollows is the hollow numbers of a complex, from 0 on. The sums whose borders are 0 have what the borders leave of all sums as their dimension.
func (f family) hollows() []int {
	counts := f.counts()
	hollows := make([]int, len(counts)-1)
	for k := range hollows {
		hollows[k] = counts[k+1] - f.borderRank(k+1) - f.borderRank(k+2)
	}
	return hollows
}
