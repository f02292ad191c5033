package curve_test

import (
	"math"
	"math/big"
	"testing"

	"orrery/api"
	"orrery/curve"
)

// checkMake: x / d, y / d is the path that Make returns, in the form of a result.
func checkMake(t *testing.T, x, y api.Poly, d api.Int) {
	t.Helper()
	got, err := curve.Make(x, y, d)
	want := pathOf(api.Curve{X: x, Y: y, D: d}).curve()
	if err != api.OK || !sameCurve(got, want) {
		t.Error(x, y, d, got, err, want)
	}
}

func TestMake(t *testing.T) {
	for _, r := range []struct {
		x, y api.Poly
		d    int64
		want api.Curve
	}{
		{raw(1, 2), raw(3), 1, api.Curve{X: raw(1, 2), Y: raw(3), D: one(1)}},
		{raw(2, 4), raw(6), 8, api.Curve{X: raw(1, 2), Y: raw(3), D: one(4)}},
		{raw(2, 4), raw(6), -8, api.Curve{X: raw(-1, -2), Y: raw(-3), D: one(4)}},
		{raw(2, 4), raw(5), 8, api.Curve{X: raw(2, 4), Y: raw(5), D: one(8)}},
		{raw(2, 5), raw(4), -8, api.Curve{X: raw(-2, -5), Y: raw(-4), D: one(8)}},
		{raw(12, 0, -18), raw(0, 30), 6, api.Curve{X: raw(2, 0, -3), Y: raw(0, 5), D: one(1)}},
		{raw(0, 0, 3, 0, 0), raw(0, 0), 3, api.Curve{X: raw(0, 0, 1), D: one(1)}},
		{nil, raw(0, -7, 0), -7, api.Curve{Y: raw(0, 1), D: one(1)}},
		{nil, nil, 12, api.Curve{D: one(1)}},
		{nil, nil, -12, api.Curve{D: one(1)}},
		{raw(0), raw(0, 0, 0), 5, api.Curve{D: one(1)}},
	} {
		got, err := curve.Make(r.x, r.y, one(r.d))
		if err != api.OK || !sameCurve(got, r.want) {
			t.Error(r, got, err)
		}
		checkMake(t, r.x, r.y, one(r.d))
	}
}

func TestMakeDrawn(t *testing.T) {
	var d draw = 12
	for range 3000 {
		n := d.next(24) - 12
		if n >= 0 {
			n++
		}
		checkMake(t, d.few(5), d.few(5), one(int64(n)))
	}
}

// TestMakeFactors has long common factors: of all, of all but one coefficient, and of all but D.
func TestMakeFactors(t *testing.T) {
	var d draw = 5
	for range 60 {
		by := d.limbs(1 + d.next(5))
		x, y, n := d.long(1+d.next(4), 2), d.long(1+d.next(4), 2), d.limbs(1+d.next(3))
		times := func(p api.Poly) api.Poly {
			var out api.Poly
			for _, a := range p {
				out = append(out, intOf(new(big.Int).Mul(bigOf(a), bigOf(by))))
			}
			return out
		}
		wide := times(api.Poly{n})[0]
		checkMake(t, times(x), times(y), wide)
		checkMake(t, times(x), times(y), n)
		checkMake(t, times(x), y, wide)
		checkMake(t, x, times(y), wide)
		checkMake(t, append(times(x), one(1)), times(y), wide)
	}
}

// TestMakeZero: every form of a 0 as the denominator is an error, which has nothing beside it.
func TestMakeZero(t *testing.T) {
	for _, d := range noughts() {
		for _, p := range []api.Poly{nil, raw(1), raw(0, 2, 4)} {
			if got, err := curve.Make(p, raw(3, 1), d); err != api.ErrZero || len(got.X) != 0 || len(got.Y) != 0 || len(got.D.L) != 0 || got.D.Neg {
				t.Error(d, p, got, err)
			}
		}
	}
}

func TestOf(t *testing.T) {
	for _, p := range append(noPolys(), raw(1), raw(0, 2), raw(4, 0, -6), raw(2, 4, 0, 0)) {
		for _, q := range append(noPolys(), raw(-3), raw(2, 2)) {
			if got, want := curve.Of(p, q), (path{rowOf(p, one(1)), rowOf(q, one(1))}).curve(); !sameCurve(got, want) || !sameInt(got.D, one(1)) {
				t.Error(p, q, got, want)
			}
		}
	}
	if got := curve.Of(raw(4, 0, -6), raw(2, 2, 0)); !sameCurve(got, api.Curve{X: raw(4, 0, -6), Y: raw(2, 2), D: one(1)}) {
		t.Error(got)
	}
}

func TestStill(t *testing.T) {
	l := []int{0, 1, -1, 7, -12, 1 << 32, math.MaxInt, math.MinInt}
	for _, x := range l {
		for _, y := range l {
			want := api.Curve{D: one(1)}
			if x != 0 {
				want.X = raw(int64(x))
			}
			if y != 0 {
				want.Y = raw(int64(y))
			}
			if got := curve.Still(x, y); !sameCurve(got, want) {
				t.Error(x, y, got, want)
			}
		}
	}
}

func TestDeg(t *testing.T) {
	for _, r := range []struct {
		x, y api.Poly
		want int
	}{
		{nil, nil, 0}, {raw(0, 0, 0), raw(0), 0}, {raw(5), nil, 0}, {nil, raw(5), 0}, {raw(5), raw(-6, 0, 0), 0}, {raw(0, 1), nil, 1}, {nil, raw(0, 1), 1}, {raw(1, 1), raw(0, 0, 0), 1},
		{raw(0, 0, 2), raw(1, 3), 2}, {raw(1, 3, 0, 0), raw(0, 0, 2), 2}, {raw(1, 0, 0, 4), raw(1, 1, 1), 3}, {raw(9), raw(1, 0, 0, 4, 0), 3},
	} {
		for _, d := range append(noughts(), one(1), one(-3)) {
			if got := curve.Deg(api.Curve{X: r.x, Y: r.y, D: d}); got != r.want {
				t.Error(r, d, got)
			}
		}
	}
}

func TestDegDrawn(t *testing.T) {
	var d draw = 99
	for range 2000 {
		c := d.curve()
		if got, p := curve.Deg(c), pathOf(c); got != max(0, len(p.x)-1, len(p.y)-1) {
			t.Error(c, got)
		}
	}
}

func TestSame(t *testing.T) {
	for _, r := range []struct {
		a, b api.Curve
		want bool
	}{
		{api.Curve{}, api.Curve{}, true},
		{api.Curve{}, curve.Still(0, 0), true},
		{api.Curve{}, api.Curve{D: one(-7)}, true},
		{curve.Still(1, 2), curve.Still(1, 2), true},
		{curve.Still(1, 2), curve.Still(2, 1), false},
		{curve.Still(1, 2), curve.Still(1, 3), false},
		{curve.Still(1, 2), curve.Still(0, 2), false},
		{curve.Still(1, 2), api.Curve{X: raw(1), Y: raw(2)}, true},
		{curve.Still(1, 2), api.Curve{X: raw(-2), Y: raw(-4, 0), D: one(-2)}, true},
		{curve.Still(1, 2), api.Curve{X: raw(1), Y: raw(2), D: one(-1)}, false},
		{curve.Still(1, 2), api.Curve{X: raw(1), Y: raw(2), D: one(2)}, false},
		{curve.Of(raw(0, 1), nil), curve.Of(raw(0, 1), nil), true},
		{curve.Of(raw(0, 1), nil), curve.Of(nil, raw(0, 1)), false},
		{curve.Of(raw(0, 1), raw(1, 2)), curve.Of(raw(0, 1), raw(1, 2, 3)), false},
		{curve.Of(raw(0, 1), raw(1, 2)), curve.Of(raw(0, 1, 1), raw(1, 2)), false},
		// They meet at 0 and 1, which does not make them one.
		{curve.Of(raw(0, 1), raw(0, 1)), curve.Of(raw(0, 0, 1), raw(0, 0, 1)), false},
		{api.Curve{X: raw(1), Y: raw(4), D: one(2)}, api.Curve{X: raw(2), Y: raw(2), D: one(4)}, false},
	} {
		if got, back := curve.Same(r.a, r.b), curve.Same(r.b, r.a); got != r.want || back != r.want {
			t.Error(r, got, back)
		}
	}
}

func TestSameDrawn(t *testing.T) {
	var d draw = 7
	for range 2000 {
		a := d.curve()
		by := int64(d.next(9) - 4)
		b := api.Curve{X: rescale(a.X, by), Y: rescale(a.Y, by), D: intOf(new(big.Int).Mul(divisor(a.D), big.NewInt(by)))}
		for _, c := range []api.Curve{b, d.curve(), {X: b.X, Y: b.Y, D: a.D}, {X: a.X, Y: b.Y, D: b.D}, {X: b.X, Y: a.Y, D: b.D}} {
			if got, back, want := curve.Same(a, c), curve.Same(c, a), pathOf(a).equal(pathOf(c)); got != want || back != want {
				t.Error(a, c, got, back, want)
			}
		}
	}
}

// rescale is p times by.
func rescale(p api.Poly, by int64) api.Poly {
	var out api.Poly
	for _, a := range p {
		out = append(out, intOf(new(big.Int).Mul(bigOf(a), big.NewInt(by))))
	}
	return out
}

func TestAt(t *testing.T) {
	for _, r := range []struct {
		c            api.Curve
		t            api.Rat
		wantX, wantY api.Rat
	}{
		{api.Curve{}, fraction(3, 1), fraction(0, 1), fraction(0, 1)},
		{curve.Still(4, -5), fraction(7, 2), fraction(4, 1), fraction(-5, 1)},
		{curve.Of(raw(0, 1), raw(1, 0, 1)), fraction(3, 1), fraction(3, 1), fraction(10, 1)},
		{curve.Of(raw(0, 1), raw(1, 0, 1)), fraction(-2, 4), fraction(-1, 2), fraction(5, 4)},
		{api.Curve{X: raw(0, 2), Y: raw(3), D: one(4)}, fraction(1, 1), fraction(1, 2), fraction(3, 4)},
		{api.Curve{X: raw(0, 2), Y: raw(3), D: one(-4)}, fraction(1, 1), fraction(-1, 2), fraction(-3, 4)},
		{api.Curve{X: raw(0, 2), Y: raw(3)}, fraction(1, 1), fraction(2, 1), fraction(3, 1)},
		{api.Curve{X: raw(-1, 1), Y: raw(1, 1), D: one(6)}, fraction(5, 0), fraction(2, 3), fraction(1, 1)},
	} {
		x, y := curve.At(r.c, r.t)
		if !sameRat(x, r.wantX) || !sameRat(y, r.wantY) {
			t.Error(r, x, y)
		}
	}
}

func TestAtDrawn(t *testing.T) {
	var d draw = 41
	for range 3000 {
		c, at := d.curve(), d.rat()
		p, s := pathOf(c), bigRat(at)
		x, y := curve.At(c, at)
		if !sameRat(x, ratOf(p.x.at(s))) || !sameRat(y, ratOf(p.y.at(s))) {
			t.Error(c, at, x, y)
		}
	}
}

// TestPoint: a point's curve is embedded in it, so its X, Y and D are the point's own.
func TestPoint(t *testing.T) {
	p := api.Point{Curve: curve.Rebase(raw(0, 1), nil, fraction(1, 2)), Id: 3}
	if !same(p.X, raw(-1, 2)) || len(p.Y) != 0 || !sameInt(p.D, one(2)) || curve.Deg(p.Curve) != 1 {
		t.Error(p)
	}
}
