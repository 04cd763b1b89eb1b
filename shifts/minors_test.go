package shifts_test

import (
	"cmp"
	"slices"
	"testing"

	"girouette/api"
	"girouette/shifts"
)

// checkLists compares Fixed, Torsion and Sign with their definitions.
func checkLists(t *testing.T, a [][]int) {
	t.Helper()
	if got, e := shifts.Fixed(a); !slices.Equal(got, fixed(a)) || e != api.OK {
		t.Error("Fixed", a, got, e, fixed(a))
	}
	if got, e := shifts.Torsion(a); !slices.Equal(got, torsion(a)) || e != api.OK {
		t.Error("Torsion", a, got, e, torsion(a))
	}
	if got, e := shifts.Sign(a); got != cmp.Compare(determinant(a), 0) || e != api.OK {
		t.Error("Sign", a, got, e, determinant(a))
	}
}

// TestLists: P6.3, matrices of one and two states with numbers up to 9 or 6, of three up to 1, and many others.
func TestLists(t *testing.T) {
	eachMatrix(1, 9, func(a [][]int) { checkLists(t, a) })
	eachMatrix(2, 6, func(a [][]int) { checkLists(t, a) })
	eachMatrix(3, 1, func(a [][]int) { checkLists(t, a) })
	for _, a := range someMatrices() {
		checkLists(t, a)
	}
}

// TestForm: P6.3, that the numbers which the tests expect divide each other.
func TestForm(t *testing.T) {
	for _, a := range someMatrices() {
		l := form(a)
		for i := range l[1:] {
			if !divides(l[i], l[i+1]) {
				t.Error(a, l)
			}
		}
		if len(l) != len(a) {
			t.Error(a, l)
		}
	}
}

// TestListsTold: P6.3, as they are known by hand.
func TestListsTold(t *testing.T) {
	for _, c := range []struct {
		a       [][]int
		fixed   []int64
		torsion []int64
		sign    int
	}{
		{[][]int{{0}}, []int64{1}, nil, 1},
		{[][]int{{1}}, []int64{1, -1}, []int64{0}, 0},
		{[][]int{{2}}, []int64{1, -2}, nil, -1},
		{[][]int{{3}}, []int64{1, -3}, []int64{2}, -1},
		{[][]int{{9}}, []int64{1, -9}, []int64{8}, -1},
		{[][]int{{1, 1}, {1, 1}}, []int64{1, -2}, nil, -1},
		{[][]int{{1, 0}, {0, 1}}, []int64{1, -2, 1}, []int64{0, 0}, 0},
		{[][]int{{1, 0}, {0, 4}}, []int64{1, -5, 4}, []int64{3, 0}, 0},
		{[][]int{{5, 0}, {0, 7}}, []int64{1, -12, 35}, []int64{2, 12}, 1},
		{[][]int{{0, 1}, {0, 0}}, []int64{1}, nil, 1},
		{[][]int{{0, 1}, {1, 0}}, []int64{1, 0, -1}, []int64{0}, 0},
		{[][]int{{0, 1, 0}, {0, 0, 1}, {1, 0, 0}}, []int64{1, 0, 0, -1}, []int64{0}, 0},
		{[][]int{{7, 0, 0}, {0, 5, 0}, {0, 0, 4}}, []int64{1, -16, 83, -140}, []int64{6, 12}, -1},
		{all(5, 9), []int64{1, -45}, []int64{44}, -1},
	} {
		polynomial, torsion, sign := lists(t, c.a)
		if !slices.Equal(polynomial, c.fixed) || !slices.Equal(torsion, c.torsion) || sign != c.sign {
			t.Error(c, polynomial, torsion, sign)
		}
	}
}

// TestKept: P6.8.
func TestKept(t *testing.T) {
	for _, a := range someMatrices() {
		polynomial, torsion, sign := lists(t, a)
		var whole int64
		for _, number := range polynomial {
			whole += number
		}
		product := int64(1)
		for _, number := range torsion {
			product *= number
		}
		if whole != determinant(a) || cmp.Compare(whole, 0) != sign || product != max(whole, -whole) {
			t.Error(a, polynomial, torsion, sign)
		}
		if slices.Contains(torsion, 0) != (sign == 0) {
			t.Error(a, torsion, sign)
		}
		turned, e := shifts.Turned(a)
		if e != api.OK {
			t.Error(a, e)
		}
		otherPolynomial, otherTorsion, otherSign := lists(t, turned)
		if !slices.Equal(polynomial, otherPolynomial) || !slices.Equal(torsion, otherTorsion) || sign != otherSign {
			t.Error(a, turned)
		}
	}
}
