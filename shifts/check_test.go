package shifts_test

import (
	"testing"

	"girouette/api"
	"girouette/shifts"
)

// TestCheck: P6.1.
func TestCheck(t *testing.T) {
	for _, a := range someMatrices() {
		if e := shifts.Check(a); e != api.OK {
			t.Error(a, e)
		}
	}
	for _, a := range noMatrices {
		if e := shifts.Check(a); e != api.ErrShift {
			t.Error(len(a), e)
		}
	}
}

// TestCheckSizes: P6.1, all sizes of tables, also with one row that is longer or shorter.
func TestCheckSizes(t *testing.T) {
	for height := range 8 {
		for width := range 8 {
			a := zeros(height, width)
			want := api.ErrShift
			if height == width && height >= 1 && height <= 5 {
				want = api.OK
			}
			if e := shifts.Check(a); e != want {
				t.Error(height, width, e)
			}
			for i := range a {
				for _, other := range []int{0, width - 1, width + 1} {
					if other < 0 || other == width {
						continue
					}
					uneven := cloned(a)
					uneven[i] = make([]int, other)
					want := api.ErrShift
					if height == 1 && other == 1 {
						want = api.OK
					}
					if e := shifts.Check(uneven); e != want {
						t.Error(uneven, e)
					}
				}
			}
		}
	}
}

// TestCheckNumbers: P6.1 and R9, a number in each place of a matrix.
func TestCheckNumbers(t *testing.T) {
	for k := 1; k <= 5; k++ {
		for i := range k {
			for j := range k {
				for _, number := range append([]int{0, 1, 8, 9, 10}, far...) {
					a := zeros(k, k)
					a[i][j] = number
					want := api.ErrShift
					if number >= 0 && number <= 9 {
						want = api.OK
					}
					if e := shifts.Check(a); e != want {
						t.Error(a, e)
					}
				}
			}
		}
	}
}

// TestTurned: P6.1.
func TestTurned(t *testing.T) {
	for _, a := range someMatrices() {
		got, e := shifts.Turned(a)
		want := zeros(len(a), len(a))
		for i := range a {
			for j := range a {
				want[j][i] = a[i][j]
			}
		}
		if e != api.OK || !same(got, want) {
			t.Error(a, got, e)
		}
		if back, e := shifts.Turned(got); e != api.OK || !same(back, a) {
			t.Error(a, back, e)
		}
	}
	if got, e := shifts.Turned([][]int{{1, 2, 3}, {4, 5, 6}, {7, 8, 9}}); e != api.OK || !same(got, [][]int{{1, 4, 7}, {2, 5, 8}, {3, 6, 9}}) {
		t.Error(got, e)
	}
}
