package steady_test

import (
	"math/big"
	"testing"

	"girouette/api"
	"girouette/steady"
)

// TestRouthAndHurwitz: P9.6.
func TestRouthAndHurwitz(t *testing.T) {
	for _, a := range somePolynomials(1) {
		rows, e := steady.Table(a)
		minors, f := steady.Minors(a)
		if f != api.OK || e != api.OK && e != api.ErrNone {
			t.Error(a, rows, e, minors, f)
			continue
		}
		areFirst := e == api.OK
		for _, row := range rows {
			areFirst = areFirst && row[0][0] > 0
		}
		areMinors := true
		for _, minor := range minors {
			areMinors = areMinors && minor > 0
		}
		isSteady := steadyCall(t, a)
		if a[len(a)-1] > 0 && (isSteady != areFirst || isSteady != areMinors) {
			t.Error(a, isSteady, rows, minors)
		}
		if a[len(a)-1] > 0 && isSteady && !arePositive(rats(a)) {
			t.Error(a)
		}
	}
}

// TestFirstElements: P9.6, the quotients of each minor and the one before it.
func TestFirstElements(t *testing.T) {
	for _, a := range somePolynomials(1) {
		rows, e := steady.Table(a)
		if e != api.OK {
			continue
		}
		minors, _ := steady.Minors(a)
		before := int64(1)
		for i, row := range rows {
			want := big.NewRat(int64(a[len(a)-1]), 1)
			if i > 0 {
				want = big.NewRat(minors[i-1], before)
				before = minors[i-1]
			}
			if row[0] != [2]int64{want.Num().Int64(), want.Denom().Int64()} {
				t.Error(a, i, rows, minors)
			}
		}
	}
}

// TestKharitonov: P9.8.
func TestKharitonov(t *testing.T) {
	for _, b := range someBoxes(1) {
		corners, _ := steady.Corners(b.lo, b.hi)
		want := true
		for _, corner := range corners {
			want = want && steadyCall(t, corner)
		}
		if got, e := steady.AllSteady(b.lo, b.hi); got != want || e != api.OK {
			t.Error(b, got, e)
		}
	}
}

// TestProductsKeep: P9.9.
func TestProductsKeep(t *testing.T) {
	some := somePolynomials(40)
	many, steadies := 0, 0
	for _, a := range some {
		for _, b := range some {
			product, e := steady.Times(a, b)
			if e != api.OK {
				continue
			}
			many++
			want := steadyCall(t, a) && steadyCall(t, b)
			if want {
				steadies++
			}
			if got := steadyCall(t, product); got != want {
				t.Error(a, b, product, got)
			}
		}
	}
	if many < 1000 || steadies < 200 {
		t.Error(many, steadies)
	}
}

// TestTurningKeeps: P9.9 and W5.
func TestTurningKeeps(t *testing.T) {
	for _, a := range somePolynomials(1) {
		turned, e := steady.Turned(a)
		if e == api.OK && steadyCall(t, turned) != steadyCall(t, a) {
			t.Error(a, turned)
		}
	}
}

// TestDiscTells: P9.9.
func TestDiscTells(t *testing.T) {
	inner, others, edges := 0, 0, 0
	for _, a := range somePolynomials(1) {
		disc, e := steady.Disc(a)
		isInner := innerCall(t, a)
		switch {
		case e == api.ErrLarge:
		case e == api.ErrNone:
			edges++
			if isInner {
				t.Error(a)
			}
		case isInner:
			inner++
			if !steadyCall(t, disc) {
				t.Error(a, disc)
			}
		default:
			others++
			if steadyCall(t, disc) {
				t.Error(a, disc)
			}
		}
	}
	if inner < 50 || others < 200 || edges < 200 {
		t.Error(inner, others, edges)
	}
}

// TestRightTells: P9.9.
func TestRightTells(t *testing.T) {
	for _, a := range somePolynomials(1) {
		right, e := steady.Right(a)
		if e == api.OK && (right == 0) != steadyCall(t, a) {
			t.Error(a, right)
		}
		if e != api.OK && steadyCall(t, a) {
			t.Error(a, e)
		}
	}
}
