package pred_test

import (
	"math/big"
	"testing"

	"orrery/api"
	"orrery/curve"
	"orrery/pred"
)

func checkPolys(t *testing.T, a, b, c, d api.Curve) {
	t.Helper()
	if got, want := polys(a, b, c, d), wantPolys(a, b, c, d); !samePolys(got, want) {
		t.Error(a, b, c, d, got, want)
	}
}

// over is the curve of these coefficients as they stand.
func over(x, y api.Poly, d int64) api.Curve {
	return api.Curve{X: x, Y: y, D: one(d)}
}

func TestExamples(t *testing.T) {
	o, x, y, xy := curve.Still(0, 0), curve.Still(1, 0), curve.Still(0, 1), curve.Still(1, 1)
	for _, c := range []struct {
		got, want api.Poly
	}{
		{pred.Orient(o, x, y), raw(1)},
		{pred.Orient(o, y, x), raw(-1)},
		{pred.Orient(o, x, x), nil},
		{pred.Orient(o, xy, curve.Still(-3, -3)), nil},
		{pred.InCircle(o, x, y, xy), nil},
		{pred.InCircle(o, x, y, over(raw(1), raw(1), 2)), raw(2)},
		{pred.InCircle(o, y, x, over(raw(1), raw(1), 2)), raw(-2)},
		{pred.InCircle(o, x, y, curve.Still(2, 0)), raw(-2)},
		{pred.Right(x, curve.Still(4, 9)), raw(3)},
		{pred.Above(x, curve.Still(4, 9)), raw(9)},
		{pred.Right(xy, y), raw(-1)},
		{pred.Above(xy, y), nil},
		{pred.Farther(o, x, o, xy), raw(1)},
		{pred.Farther(o, xy, o, x), raw(-1)},
		{pred.Farther(o, x, y, xy), nil},
		{pred.Farther(o, o, x, curve.Still(4, 5)), raw(34)},
	} {
		if !same(c.got, c.want) {
			t.Error(c)
		}
	}
}

// TestFactors: the D of normal curves count, and no common factor is removed.
func TestFactors(t *testing.T) {
	o := curve.Still(0, 0)
	half, whole := over(raw(0, 1), raw(1), 2), over(raw(0, 2), raw(2), 2)
	for _, c := range []struct {
		got, want api.Poly
	}{
		{pred.Right(half, over(raw(1), nil, 2)), raw(2, -2)},
		{pred.Right(half, over(raw(2), nil, 2)), raw(2, -1)},
		{pred.Right(half, over(raw(-4), nil, -4)), raw(2, -1)},
		{pred.Above(half, over(nil, raw(3), 6)), nil},
		{pred.Above(half, over(nil, raw(3), 0)), raw(5)},
		{pred.Above(whole, half), raw(-1)},
		{pred.Orient(o, half, over(raw(1), raw(0, 1), 2)), raw(-1, 0, 1)},
		{pred.Orient(o, half, over(raw(4), raw(0, 8), 8)), raw(-1, 0, 2)},
		{pred.Orient(o, whole, curve.Of(raw(2), raw(0, 2))), raw(-2, 0, 2)},
		{pred.InCircle(o, curve.Still(2, 0), curve.Still(0, 2), curve.Still(1, 1)), raw(8)},
		{pred.Farther(o, over(raw(1), nil, 2), o, over(raw(1), nil, 3)), raw(-5)},
		{pred.Farther(o, over(raw(0, 2), nil, 4), over(raw(1), raw(0, 1), 2), over(raw(1), raw(4), 2)), raw(256, -128)},
	} {
		if !same(c.got, c.want) {
			t.Error(c)
		}
	}
}

func TestDrawn(t *testing.T) {
	var d draw = 14
	for range 400 {
		checkPolys(t, d.curve(), d.curve(), d.curve(), d.curve())
	}
}

// TestRepeated has the same curves at several places, in other forms too.
func TestRepeated(t *testing.T) {
	var d draw = 3
	for i := range 8 {
		a, b := d.curve(), d.curve()
		pick := []api.Curve{a, b, formCurve(pathOf(a).curve(), i), formCurve(pathOf(b).curve(), i+1)}
		for k := range 256 {
			checkPolys(t, pick[k&3], pick[k>>2&3], pick[k>>4&3], pick[k>>6])
		}
	}
}

// spot is a position in the other arithmetic.
type spot struct {
	x, y *big.Rat
}

// spots are the positions of drawn curves at a time.
func spots(at *big.Rat, l ...api.Curve) []spot {
	var out []spot
	for _, c := range l {
		p := pathOf(c)
		out = append(out, spot{p.x.at(at), p.y.at(at)})
	}
	return out
}

// from is p as seen from o.
func (p spot) from(o spot) spot {
	return spot{new(big.Rat).Sub(p.x, o.x), new(big.Rat).Sub(p.y, o.y)}
}

// cross is above 0 if q is to the left of p, as seen from the origin.
func (p spot) cross(q spot) *big.Rat {
	return new(big.Rat).Sub(new(big.Rat).Mul(p.x, q.y), new(big.Rat).Mul(p.y, q.x))
}

// square is the squared distance from the origin.
func (p spot) square() *big.Rat {
	return new(big.Rat).Add(new(big.Rat).Mul(p.x, p.x), new(big.Rat).Mul(p.y, p.y))
}

// inside is 1 if d is inside the circle through a, b and c, 0 on it, -1 outside of it; the three do not lie on one line.
func inside(a, b, c, d spot) int {
	// The centre, as seen from a, is as far from b and c as from a.
	b, c, d = b.from(a), c.from(a), d.from(a)
	by := new(big.Rat).Inv(new(big.Rat).Mul(big.NewRat(2, 1), b.cross(c)))
	m := spot{new(big.Rat).Sub(new(big.Rat).Mul(c.y, b.square()), new(big.Rat).Mul(b.y, c.square())), new(big.Rat).Sub(new(big.Rat).Mul(b.x, c.square()), new(big.Rat).Mul(c.x, b.square()))}
	m.x.Mul(m.x, by)
	m.y.Mul(m.y, by)
	return m.square().Cmp(d.from(m).square())
}

// TestPlane holds the signs of the polynomials against the positions.
func TestPlane(t *testing.T) {
	var d draw = 41
	for range 600 {
		l := []api.Curve{d.curve(), d.curve(), d.curve(), d.curve()}
		at := bigRat(d.rat())
		s := spots(at, l...)
		a, b, c, e := s[0], s[1], s[2], s[3]
		turn := b.from(a).cross(c.from(a)).Sign()
		want := []int{b.x.Cmp(a.x), b.y.Cmp(a.y), turn, 0, c.from(e).square().Cmp(a.from(b).square())}
		if turn != 0 {
			want[3] = turn * inside(a, b, c, e)
		}
		for i, p := range polys(l[0], l[1], l[2], l[3]) {
			if i == 3 && turn == 0 {
				continue
			}
			if got := rowOf(p, one(1)).at(at).Sign(); got != want[i] {
				t.Error(l, at, i, got, want[i])
			}
		}
	}
}

func TestEqual(t *testing.T) {
	var d draw = 7
	for i := range 600 {
		a, b := d.curve(), d.curve()
		n := pathOf(a).curve()
		for _, c := range []api.Curve{b, n, formCurve(n, i), {X: n.X, Y: n.Y, D: b.D}, {X: a.X, Y: b.Y, D: a.D}, {X: b.X, Y: a.Y, D: a.D}} {
			if got, back, want := pred.Equal(a, c), pred.Equal(c, a), pathOf(a).equal(pathOf(c)); got != want || back != want {
				t.Error(a, c, got, back, want)
			}
		}
	}
	for _, c := range []struct {
		a, b api.Curve
		want bool
	}{
		{api.Curve{}, curve.Still(0, 0), true},
		{curve.Still(1, 2), over(raw(-2), raw(-4), -2), true},
		{curve.Still(1, 2), over(raw(1), raw(2), 0), true},
		{curve.Still(1, 2), curve.Still(2, 1), false},
		// They meet at 0 and at 1.
		{curve.Of(raw(0, 1), nil), curve.Of(raw(0, 0, 1), nil), false},
	} {
		if got := pred.Equal(c.a, c.b); got != c.want {
			t.Error(c, got)
		}
	}
}

// TestOfPoints: a point's curve is embedded in it.
func TestOfPoints(t *testing.T) {
	var d draw = 11
	a, b := api.Point{Curve: d.curve(), Id: 4}, api.Point{Curve: d.curve(), Id: 2}
	got := pred.Right(a.Curve, b.Curve)
	if want := wantRight(rowsOf(api.Curve{X: a.X, Y: a.Y, D: a.D}), rowsOf(b.Curve)).poly(); !same(got, want) {
		t.Error(a, b, got, want)
	}
	if len(got) == 0 {
		t.Error("the points have one X")
	}
}
