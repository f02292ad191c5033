package isolate_test

import (
	"math/big"
	"testing"

	"orrery/api"
	"orrery/isolate"
)

func TestValidKnown(t *testing.T) {
	for _, k := range knowns() {
		free := len(k.p) > 1 && len(k.p.square()) == len(k.p)
		pairs(func(lo, hi *big.Rat) {
			want := free && len(k.between(lo, hi)) == 1
			if lo.Cmp(hi) == 0 {
				want = free && k.p.at(lo).Sign() == 0
			}
			if got := isolate.Valid(api.Alg{P: polyOf(k.p), Lo: ratOf(lo), Hi: ratOf(hi)}); got != want {
				t.Fatal(k, lo, hi, got)
			}
		})
	}
}

func TestValidCounted(t *testing.T) {
	d := draw(7)
	polys(func(p api.Poly) {
		r := rowOf(p)
		free := len(r) > 1 && len(r.square()) == len(r)
		c := counterOf(r.square())
		far := r.bound()
		for _, b := range [][2]*big.Rat{{big.NewRat(-1, 2), big.NewRat(3, 1)}, {d.time(2), d.time(2)}, {new(big.Rat), far}, {new(big.Rat).Neg(far), new(big.Rat)}, {far, far}} {
			want := free && c.one(b[0], b[1])
			if got := isolate.Valid(api.Alg{P: p, Lo: ratOf(b[0]), Hi: ratOf(b[1])}); got != want {
				t.Fatal(p, b, got)
			}
		}
	})
}

func TestValid(t *testing.T) {
	for _, c := range []struct {
		p              api.Poly
		n1, d1, n2, d2 int64
		want           bool
	}{
		{raw(-2, 0, 1), 0, 1, 2, 1, true}, {raw(-2, 0, 1), -2, 1, 0, 1, true}, {raw(-2, 0, 1), -2, 1, 2, 1, false}, {raw(-2, 0, 1), 2, 1, 3, 1, false}, {raw(-2, 0, 1), 2, 1, 0, 1, false},
		{raw(-2, 0, 1), 7, 5, 10, 7, true}, {raw(-2, 0, 1), 10, 7, 3, 2, false}, {raw(-2, 0, 1), 7, 5, 7, 5, false},
		// A common divisor, and a leading coefficient below 0.
		{raw(-4, 0, 2), 0, 1, 2, 1, true}, {raw(4, 0, -2, 0), 0, 1, 2, 1, true}, {raw(-8, 4), 2, 1, 2, 1, true},
		// A root at Lo does not count, one at Hi does.
		{raw(-1, 0, 1), -1, 1, 1, 1, true}, {raw(-1, 0, 1), -1, 1, 0, 1, false}, {raw(-1, 0, 1), 0, 1, 1, 1, true}, {raw(-1, 0, 1), -2, 1, 1, 1, false}, {raw(-1, 0, 1), -2, 1, -1, 1, true},
		// Where Lo and Hi are equal, they are the number.
		{raw(-1, 0, 1), 1, 1, 1, 1, true}, {raw(-1, 0, 1), -1, 1, -1, 1, true}, {raw(-1, 0, 1), 0, 1, 0, 1, false}, {raw(1, -2), 1, 2, 1, 2, true}, {raw(0, 1), 0, 1, 0, 1, true},
		// Not squarefree, though there is one root.
		{raw(1, -2, 1), 0, 1, 2, 1, false}, {raw(1, -2, 1), 1, 1, 1, 1, false}, {raw(-2, 5, -3, -1, 1), -3, 1, 0, 1, false},
		// (t - 3) (t^2 + 1)^2: it is not squarefree elsewhere.
		{raw(-3, 1, -6, 2, -3, 1), 0, 1, 4, 1, false}, {raw(-3, 1, -3, 1), 0, 1, 4, 1, true},
		// Constants have no root.
		{raw(1), 0, 1, 1, 1, false}, {raw(-7, 0), 0, 1, 0, 1, false}, {raw(0, 0), 0, 1, 0, 1, false}, {raw(0), -1, 1, 1, 1, false},
		// No real root.
		{raw(1, 0, 1), -9, 1, 9, 1, false},
		// Bounds far beyond the roots.
		{raw(-3, 1), -1 << 60, 1, 1 << 60, 1, true}, {raw(-3, 1), 1 << 50, 1, 1 << 60, 1, false}, {raw(-3, 1), -1 << 60, 1, -1 << 50, 1, false}, {raw(-3, 1), 1 << 60, 1, -1 << 60, 1, false},
	} {
		a := api.Alg{P: c.p, Lo: fraction(c.n1, c.d1), Hi: fraction(c.n2, c.d2)}
		if got := isolate.Valid(a); got != c.want {
			t.Error(c, got)
		}
	}
	if isolate.Valid(api.Alg{}) {
		t.Error("the zero value")
	}
}
