package steady

import (
	"iter"
)

// row is the elements of a row of a table, filled up with zeros. There is room for one more than a row has, as each row is made from those one place further on.
type row [maxHalf + 1]fraction

// filledRow is a row that begins with these elements.
func filledRow(elements ...fraction) row {
	var r row
	for i := range r {
		r[i] = zero
	}
	copy(r[:], elements)
	return r
}

// first is the first element.
func (r row) first() fraction {
	return r[0]
}

// parts is the elements up to that length as the calls return them.
func (r row) parts(length int) [][2]int64 {
	list := make([][2]int64, length)
	for i, element := range r[:length] {
		list[i] = element.parts()
	}
	return list
}

// rowLength is how many elements the row of that number, from 0 on, has.
func rowLength(a []int, number int) int {
	return (len(a)-1-number)/2 + 1
}

// descent is the way down a table: the row that has been reached and the one before it.
type descent struct {
	before, reached row
}

// top is the descent at the first row.
func top(a []int) descent {
	var first []fraction
	// Where the row before begins with 0, the next one is what follows there: the second row needs no rule of its own.
	second := []fraction{zero}
	for i := len(a) - 1; i >= 0; i -= 2 {
		first = append(first, reduced(int64(a[i]), 1))
	}
	for i := len(a) - 2; i >= 0; i -= 2 {
		second = append(second, reduced(int64(a[i]), 1))
	}
	return descent{filledRow(second...), filledRow(first...)}
}

// step goes on to the next row. The first element of the one that has been reached is not 0.
func (d *descent) step() row {
	next := filledRow()
	for i := range maxHalf {
		share := d.reached[i+1].times(d.before.first()).per(d.reached.first())
		next[i] = d.before[i+1].minus(share)
	}
	d.before, d.reached = d.reached, next
	return next
}

// rows runs through a row and those that steps lead to, until it is left.
func rows(first row, step func() row) iter.Seq[row] {
	return func(yield func(row) bool) {
		for r := first; yield(r); r = step() {
		}
	}
}

// table is the rows of the table of a polynomial, if it does not break.
func table(a []int) ([]row, bool) {
	var list []row
	d := top(a)
filling:
	for r := range rows(d.reached, d.step) {
		list = append(list, r)
		switch {
		case len(list) == len(a):
			return list, true
		case r.first() == zero:
			break filling
		}
	}
	return nil, false
}

// changes is how often the first elements of rows, which are not 0, change their sign.
func changes(list []row) int {
	count := 0
	for i, r := range list[1:] {
		if (r.first().over < 0) != (list[i].first().over < 0) {
			count++
		}
	}
	return count
}
