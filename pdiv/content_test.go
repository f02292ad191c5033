package pdiv_test

import (
	"math/big"
	"testing"

	"orrery/api"
	"orrery/pdiv"
)

func TestContent(t *testing.T) {
	singles(func(a api.Poly) {
		checkInt(t, pdiv.Content(a), rowOf(a).content(), a)
	})
	pairs(func(a, b api.Poly) {
		want := append(append(row{}, rowOf(a)...), rowOf(b)...).content()
		checkInt(t, pdiv.Content(a, b), want, a, b)
	})
	for _, c := range []struct {
		l    []api.Poly
		want int64
	}{
		{nil, 0}, {[]api.Poly{}, 0}, {noPolys(), 0}, {[]api.Poly{raw(-6)}, 6}, {[]api.Poly{raw(0, 0, -6)}, 6}, {[]api.Poly{raw(6, -10, 15)}, 1}, {[]api.Poly{raw(6, -10), raw(15)}, 1},
		{[]api.Poly{raw(12, 18), nil, raw(0, -30)}, 6}, {[]api.Poly{raw(4, 8), raw(12), raw(-16, 0, 20), raw(6)}, 2}, {append(noPolys(), raw(0, 9)), 9},
	} {
		checkInt(t, pdiv.Content(c.l...), big.NewInt(c.want), c)
	}
}

// TestContentOfMany has rows of polynomials with a long number in all their coefficients.
func TestContentOfMany(t *testing.T) {
	d := draw(3)
	for range 500 {
		by := bigOf(d.number(5))
		var l []api.Poly
		var together row
		for range d.next(6) {
			r := rowOf(d.poly(4, 3)).scaled(by)
			l = append(l, polyOf(r))
			together = append(together, r...)
		}
		checkInt(t, pdiv.Content(l...), together.content(), l)
	}
}

func TestPrimitive(t *testing.T) {
	singles(func(a api.Poly) {
		c, b := pdiv.Primitive(a)
		r := rowOf(a)
		if len(r) == 0 {
			if !sameInt(c, api.Int{}) || len(b) != 0 {
				t.Fatal(a, c, b)
			}
			return
		}
		want := r.content()
		if r[r.deg()].Sign() < 0 {
			want.Neg(want)
		}
		checkInt(t, c, want, a)
		check(t, polyOf(rowOf(b).scaled(want)), r, a, b)
		if rowOf(b).content().Cmp(big.NewInt(1)) != 0 || bigOf(b[len(b)-1]).Sign() <= 0 || !same(b, polyOf(rowOf(b))) {
			t.Fatal(a, b)
		}
	})
	for _, c := range []struct {
		a    api.Poly
		c    int64
		want api.Poly
	}{
		{raw(-4, 6), 2, raw(-2, 3)}, {raw(4, -6), -2, raw(-2, 3)}, {raw(4, -6, 0, 0), -2, raw(-2, 3)}, {raw(-7), -7, raw(1)}, {raw(7), 7, raw(1)}, {raw(-1), -1, raw(1)},
		{raw(0, 0, -9), -9, raw(0, 0, 1)}, {raw(3, 5), 1, raw(3, 5)}, {raw(3, -5), -1, raw(-3, 5)},
	} {
		by, b := pdiv.Primitive(c.a)
		if !sameInt(by, raw(c.c)[0]) || !same(b, c.want) {
			t.Error(c, by, b)
		}
	}
}
