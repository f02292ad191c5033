package curve_test

import (
	"testing"

	"orrery/api"
	"orrery/curve"
)

// TestLong has curves of degree MaxDeg + 1 with numbers of MaxLimbs limbs.
func TestLong(t *testing.T) {
	var d draw = 77
	for range 8 {
		n := api.MaxDeg + 2
		x, y, s := d.long(n, api.MaxLimbs), d.long(1+d.next(n), api.MaxLimbs), api.Rat{Int: d.limbs(api.MaxLimbs), D: d.limbs(api.MaxLimbs)}
		c := api.Curve{X: x, Y: y, D: d.limbs(api.MaxLimbs)}
		checkMake(t, c.X, c.Y, c.D)
		checkRebase(t, x, y, s)
		p := pathOf(c)
		gotX, gotY := curve.At(c, s)
		if !sameRat(gotX, ratOf(p.x.at(bigRat(s)))) || !sameRat(gotY, ratOf(p.y.at(bigRat(s)))) {
			t.Error(c, s)
		}
		made, _ := curve.Make(x, y, c.D)
		if !curve.Same(c, made) || curve.Same(c, curve.Of(x, y)) || curve.Deg(c) != api.MaxDeg+1 {
			t.Error(c)
		}
	}
}

// TestManyTerms has polynomials of MaxTerms coefficients.
func TestManyTerms(t *testing.T) {
	var d draw = 8
	top := make(api.Poly, api.MaxTerms)
	top[api.MaxTerms-1] = one(1)
	for _, x := range []api.Poly{top, d.long(api.MaxTerms, 1)} {
		for _, y := range []api.Poly{nil, raw(1, 2), d.long(api.MaxTerms, 2)} {
			checkMake(t, x, y, d.limbs(3))
			checkRebase(t, x, y, fraction(5, -6))
			checkRebase(t, y, x, fraction(-7, 1<<40))
		}
	}
	// The powers of 2 in the coefficients cancel all of the shift's denominator.
	full := make(api.Poly, api.MaxTerms)
	for i := range full {
		full[i] = api.Int{L: make([]uint32, i/32+1)}
		full[i].L[i/32] = 1 << (i % 32)
	}
	checkRebase(t, full, full[:5], fraction(3, 2))
	if c := curve.Rebase(full, full[:5], fraction(3, 2)); !sameInt(c.D, one(1)) {
		t.Error(c)
	}
}

// TestBeyond: more coefficients than the limit are no promise, but each call ends.
func TestBeyond(t *testing.T) {
	var d draw = 15
	for _, n := range []int{api.MaxTerms + 1, 256, 257, 258, 300} {
		p := d.long(n, 1)
		c := curve.Rebase(p, raw(1), fraction(1, 3))
		if curve.Deg(c) != n-1 {
			t.Error(n, curve.Deg(c))
		}
		curve.At(c, fraction(-2, 7))
		curve.Same(c, curve.Of(p, p))
	}
}
