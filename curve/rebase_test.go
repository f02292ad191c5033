package curve_test

import (
	"math/big"
	"testing"

	"orrery/api"
	"orrery/curve"
)

// checkRebase holds the curve against the binomial theorem, and its positions against those of x, y.
func checkRebase(t *testing.T, x, y api.Poly, s api.Rat) {
	t.Helper()
	got := curve.Rebase(x, y, s)
	px, py := rowOf(x, one(1)), rowOf(y, one(1))
	if want := (path{px.later(bigRat(s)), py.later(bigRat(s))}).curve(); !sameCurve(got, want) {
		t.Error(x, y, s, got, want)
	}
	for _, at := range []*big.Rat{new(big.Rat), big.NewRat(3, 1), big.NewRat(-5, 7), bigRat(s)} {
		since := new(big.Rat).Sub(at, bigRat(s))
		gotX, gotY := curve.At(got, ratOf(at))
		if !sameRat(gotX, ratOf(px.at(since))) || !sameRat(gotY, ratOf(py.at(since))) {
			t.Error(x, y, s, at, gotX, gotY)
		}
	}
}

func TestRebase(t *testing.T) {
	for _, r := range []struct {
		x, y api.Poly
		s    api.Rat
		want api.Curve
	}{
		{raw(0, 1), nil, fraction(1, 2), api.Curve{X: raw(-1, 2), D: one(2)}},
		{nil, raw(0, 1), fraction(1, 2), api.Curve{Y: raw(-1, 2), D: one(2)}},
		{raw(0, 1), raw(0, 0, 1), fraction(1, 2), api.Curve{X: raw(-2, 4), Y: raw(1, -4, 4), D: one(4)}},
		{raw(0, 0, 1), raw(0, 1), fraction(-1, 2), api.Curve{X: raw(1, 4, 4), Y: raw(2, 4), D: one(4)}},
		{raw(5), raw(-3), fraction(7, 3), api.Curve{X: raw(5), Y: raw(-3), D: one(1)}},
		{nil, nil, fraction(7, 3), api.Curve{D: one(1)}},
		{raw(1, 2), raw(3, 0, 4), fraction(0, 1), api.Curve{X: raw(1, 2), Y: raw(3, 0, 4), D: one(1)}},
		// The shift's denominator need not stay: 2 (t - 1/2) is 2 t - 1.
		{raw(0, 2), raw(0, 4), fraction(1, 2), api.Curve{X: raw(-1, 2), Y: raw(-2, 4), D: one(1)}},
		{raw(0, 0, 0, 3), raw(1), fraction(2, 3), api.Curve{X: raw(-8, 36, -54, 27), Y: raw(9), D: one(9)}},
		{raw(0, 1, 0, 0), raw(0, 0), fraction(-2, -4), api.Curve{X: raw(-1, 2), D: one(2)}},
		{raw(0, 1), nil, fraction(1, -2), api.Curve{X: raw(1, 2), D: one(2)}},
		{raw(0, 1), raw(1), fraction(3, 0), api.Curve{X: raw(-3, 1), Y: raw(1), D: one(1)}},
	} {
		if got := curve.Rebase(r.x, r.y, r.s); !sameCurve(got, r.want) {
			t.Error(r, got)
		}
		checkRebase(t, r.x, r.y, r.s)
	}
}

func TestRebaseDrawn(t *testing.T) {
	var d draw = 23
	for range 1500 {
		checkRebase(t, d.few(5), d.few(5), d.rat())
	}
}

// TestRebaseAgain: two shifts are one by their sum, where no denominator is left between them.
func TestRebaseAgain(t *testing.T) {
	var d draw = 3
	for range 300 {
		x, y := d.few(4), d.few(4)
		n, s := int64(d.next(19)-9), d.rat()
		first := curve.Rebase(x, y, fraction(n, 1))
		sum := new(big.Rat).Add(big.NewRat(n, 1), bigRat(s))
		if got, want := curve.Rebase(first.X, first.Y, s), curve.Rebase(x, y, ratOf(sum)); !sameInt(first.D, one(1)) || !sameCurve(got, want) {
			t.Error(x, y, n, s, got, want)
		}
	}
}
