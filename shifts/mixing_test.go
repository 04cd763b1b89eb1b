package shifts_test

import (
	"testing"

	"girouette/api"
	"girouette/shifts"
)

// beyond is a length that is greater than all from which on a matrix may begin to mix.
const beyond = 24

// mixes is the definition of what mixes, as far as lengths beyond which it cannot begin to do so.
func mixes(a [][]int) (int, bool) {
	reach := reaches(a, 2*beyond)
	from := len(reach)
	for from > 0 && isFull(reach[from-1]) {
		from--
	}
	if from > beyond {
		return 0, false
	}
	return from, true
}

// checkMixing compares Hangs, Beat and Mixes with their definitions, and Mixes with Wielandt's bound.
func checkMixing(t *testing.T, a [][]int) {
	t.Helper()
	whole := hangs(a)
	if got, e := shifts.Hangs(a); got != whole || e != api.OK {
		t.Error("Hangs", a, got, e)
	}
	want, wantError := 0, api.ErrNone
	if whole {
		want, wantError = beat(a), api.OK
	}
	if got, e := shifts.Beat(a); got != want || e != wantError {
		t.Error("Beat", a, got, e, want)
	}
	from, is := mixes(a)
	got, ok, e := shifts.Mixes(a)
	if got != from || ok != is || e != api.OK {
		t.Error("Mixes", a, got, ok, e, from, is)
	}
	if k := len(a); ok != (whole && want == 1) || got > (k-1)*(k-1)+1 {
		t.Error("Mixes", a, got, ok, whole, want)
	}
}

// TestMixing: P6.4 and P6.9, all matrices of up to three states with no more than one way from each to each, many of four and five, and many others.
func TestMixing(t *testing.T) {
	for k := 1; k <= 3; k++ {
		eachMatrix(k, 1, func(a [][]int) { checkMixing(t, a) })
	}
	many := 0
	eachMatrix(4, 1, func(a [][]int) {
		many++
		if many%13 == 0 {
			checkMixing(t, a)
		}
	})
	for seed := range uint64(3000) {
		checkMixing(t, sparse(5, 1, seed))
	}
	for _, a := range someMatrices() {
		checkMixing(t, a)
	}
}

// TestMixingTold: P6.4, as it is known by hand.
func TestMixingTold(t *testing.T) {
	for k := 1; k <= 5; k++ {
		if got, e := shifts.Beat(ring(k)); got != k || e != api.OK {
			t.Error(k, got, e)
		}
		if got, ok, e := shifts.Mixes(ring(k)); got != 0 || ok != (k == 1) || e != api.OK {
			t.Error(k, got, ok, e)
		}
		if got, ok, e := shifts.Mixes(wielandt(k)); k > 1 && (got != (k-1)*(k-1)+1 || !ok || e != api.OK) {
			t.Error(k, got, ok, e)
		}
		// Of length 0 there is a trip from each state to each one only if there is just one state.
		if got, ok, e := shifts.Mixes(all(k, 1)); got != min(k-1, 1) || !ok || e != api.OK {
			t.Error(k, got, ok, e)
		}
		if got, ok, e := shifts.Mixes(all(k, 0)); got != 0 || ok || e != api.OK {
			t.Error(k, got, ok, e)
		}
		if got, e := shifts.Beat(all(k, 0)); got != 0 || e != api.ErrNone {
			t.Error(k, got, e)
		}
	}
	// Two rings of two states, from each of which there is a way to the other one that makes a ring of three.
	rings := [][]int{{0, 1, 0, 0}, {1, 0, 1, 0}, {0, 0, 0, 1}, {0, 1, 1, 0}}
	if got, e := shifts.Beat(rings); got != 1 || e != api.OK {
		t.Error(got, e)
	}
	// No way back.
	rings[3][1] = 0
	if got, e := shifts.Hangs(rings); got || e != api.OK {
		t.Error(got, e)
	}
	// A way back that makes a ring of two.
	rings[2][1] = 2
	if got, e := shifts.Beat(rings); got != 2 || e != api.OK {
		t.Error(got, e)
	}
}
