package sturm_test

import (
	"math/big"
	"testing"

	"orrery/api"
	"orrery/pgcd"
	"orrery/sturm"
)

// checkChain tells whether l is the chain of p, by division over the rational numbers.
func checkChain(t *testing.T, p api.Poly, l []api.Poly) {
	t.Helper()
	last := rowOf(pgcd.Square(p))
	next := last.derived().reduced()
	want := []api.Poly{polyOf(last)}
	for len(next) > 0 {
		want = append(want, polyOf(next))
		last, next = next, last.modulo(next).reduced().scaled(big.NewRat(-1, 1))
	}
	if !equal(l, want) {
		t.Fatal("got", l, "want", want, p)
	}
}

// changes counts the sign changes of the polynomials of l at at.
func changes(l []api.Poly, at *big.Rat) int {
	var signs []int
	for _, p := range l {
		if s := rowOf(p).at(at).Sign(); s != 0 {
			signs = append(signs, s)
		}
	}
	n := 0
	for i := 1; i < len(signs); i++ {
		if signs[i] != signs[i-1] {
			n++
		}
	}
	return n
}

func TestNew(t *testing.T) {
	polys(func(p api.Poly) { checkChain(t, p, chainOf(t, p).All()) })
	for _, c := range []struct {
		p    api.Poly
		want []api.Poly
	}{
		{raw(7), []api.Poly{raw(1)}},
		{raw(-7, 0), []api.Poly{raw(1)}},
		{raw(4, -6), []api.Poly{raw(-2, 3), raw(1)}},
		{raw(-2, 0, 1), []api.Poly{raw(-2, 0, 1), raw(0, 1), raw(1)}},
		// The leading coefficient below 0 goes with the squarefree part.
		{raw(6, 0, -3), []api.Poly{raw(-2, 0, 1), raw(0, 1), raw(1)}},
		{raw(1, 0, 1), []api.Poly{raw(1, 0, 1), raw(0, 1), raw(-1)}},
		// (t - 1)^3 (t + 2): each root counts once.
		{raw(-2, 5, -3, -1, 1), []api.Poly{raw(-2, 1, 1), raw(1, 2), raw(1)}},
		// The degree falls by more than 1.
		{raw(1, 0, 0, 0, 0, 1), []api.Poly{raw(1, 0, 0, 0, 0, 1), raw(0, 0, 0, 0, 1), raw(-1)}},
		// A leading coefficient below 0 within the chain.
		{raw(0, 1, 0, 1), []api.Poly{raw(0, 1, 0, 1), raw(1, 0, 3), raw(0, -1), raw(-1)}},
		{raw(0, -1, 0, 1), []api.Poly{raw(0, -1, 0, 1), raw(-1, 0, 3), raw(0, 1), raw(1)}},
	} {
		if got := chainOf(t, c.p).All(); !equal(got, c.want) {
			t.Error(c.p, got, c.want)
		}
	}
}

// TestZero: every form of 0 is an error, beside which there is nothing.
func TestZero(t *testing.T) {
	for _, p := range noPolys() {
		if c, err := sturm.New(p); c != nil || err != api.ErrZero {
			t.Error(p, c, err)
		}
		if b, err := sturm.Bound(p); !sameRat(b, api.Rat{}) || err != api.ErrZero {
			t.Error(p, b, err)
		}
	}
}

func TestTurns(t *testing.T) {
	d := draw(2)
	polys(func(p api.Poly) {
		c := chainOf(t, p)
		l := c.All()
		for _, at := range []*big.Rat{new(big.Rat), big.NewRat(1, 1), big.NewRat(int64(d.next(41)-20), int64(1+d.next(9))), new(big.Rat).SetFrac(bigOf(d.number(4)), big.NewInt(1<<40))} {
			if got, want := c.Turns(ratOf(at)), changes(l, at); got != want {
				t.Fatal(p, at, got, want)
			}
		}
	})
	for _, c := range []struct {
		p    api.Poly
		n, d int64
		want int
	}{
		{raw(-2, 0, 1), -2, 1, 2}, {raw(-2, 0, 1), 0, 1, 1}, {raw(-2, 0, 1), 2, 1, 0}, {raw(-2, 0, 1), 7, 5, 1}, {raw(-2, 0, 1), 10, 7, 0},
		// The first sign is left out at a root.
		{raw(-1, 0, 1), -1, 1, 1}, {raw(-1, 0, 1), 1, 1, 0}, {raw(1, -2), 1, 2, 0}, {raw(1, -2), 0, 1, 1},
		// t^3 + t, 3 t^2 + 1, -t, -1: two are 0 at 0.
		{raw(0, 1, 0, 1), 0, 1, 1}, {raw(0, 1, 0, 1), -1, 1, 2}, {raw(0, 1, 0, 1), 1, 1, 1},
		{raw(5), 0, 1, 0}, {raw(-5), 3, 1, 0},
	} {
		if got := chainOf(t, c.p).Turns(ratOf(big.NewRat(c.n, c.d))); got != c.want {
			t.Error(c, got)
		}
	}
}
