package isolate_test

import (
	"math/big"
	"testing"

	"orrery/api"
	"orrery/isolate"
)

// checkForm tells whether every number of l is in the form of a result, within the bounds, and has free, the squarefree part, for its P; and whether they rise, their intervals being disjoint. nil bounds nothing.
func checkForm(t *testing.T, free row, l []api.Alg, lo, hi *big.Rat) {
	t.Helper()
	last := lo
	for _, a := range l {
		if !same(a.P, polyOf(free)) {
			t.Fatal(a, free)
		}
		low, high := bigRat(a.Lo), bigRat(a.Hi)
		if !sameRat(a.Lo, ratOf(low)) || !sameRat(a.Hi, ratOf(high)) {
			t.Fatal(free, a, "not normal")
		}
		if low.Cmp(high) > 0 || last != nil && low.Cmp(last) < 0 || hi != nil && high.Cmp(hi) > 0 {
			t.Fatal(free, l, lo, hi)
		}
		// A number that is told itself must not be in the interval below it either.
		if low.Cmp(high) == 0 && last != nil && low.Cmp(last) == 0 {
			t.Fatal(free, l, lo, hi)
		}
		last = high
	}
}

// checkKnown tells whether l are the roots of a polynomial whose squarefree part is free.
func checkKnown(t *testing.T, free row, l []api.Alg, want []place, lo, hi *big.Rat) {
	t.Helper()
	checkForm(t, free, l, lo, hi)
	if len(l) != len(want) {
		t.Fatal(free, l, want, lo, hi)
	}
	for i, a := range l {
		if !has(a, want[i]) {
			t.Fatal(free, a, want[i])
		}
	}
}

// checkCounted tells whether l are the roots that c, the counter of the squarefree part, counts within the bounds.
func checkCounted(t *testing.T, c counter, l []api.Alg, lo, hi *big.Rat) {
	t.Helper()
	checkForm(t, c[0], l, lo, hi)
	if n := c.between(lo, hi); len(l) != n {
		t.Fatal(c[0], l, n, lo, hi)
	}
	for _, a := range l {
		if !c.one(bigRat(a.Lo), bigRat(a.Hi)) {
			t.Fatal(c[0], a)
		}
	}
}

// rootsOf are the roots of p, which is not 0.
func rootsOf(t *testing.T, p api.Poly) []api.Alg {
	t.Helper()
	l, err := isolate.Roots(p)
	if err != api.OK {
		t.Fatal(p, l, err)
	}
	return l
}

// checkFirst tells whether a and ok are the first one of the roots above at, of which there are n.
func checkFirst(t *testing.T, a api.Alg, ok bool, n int) []api.Alg {
	t.Helper()
	if ok != (n > 0) {
		t.Fatal(a, ok, n)
	}
	if !ok {
		if !sameAlg(a, api.Alg{}) {
			t.Fatal(a, "beside false")
		}
		return nil
	}
	return []api.Alg{a}
}

func TestRoots(t *testing.T) {
	for _, k := range knowns() {
		checkKnown(t, k.p.square(), rootsOf(t, polyOf(k.p)), k.roots, nil, nil)
	}
	polys(func(p api.Poly) { checkCounted(t, counterOf(rowOf(p).square()), rootsOf(t, p), nil, nil) })
	for _, c := range []struct {
		p    api.Poly
		want int
	}{
		{raw(-2, 0, 1), 2}, {raw(2, 0, 1), 0}, {raw(0, 0, 1), 1}, {raw(-5), 0}, {raw(5, 0), 0}, {raw(1, 0, 0, 1), 1}, {raw(1, -3, 0, 1), 3}, {raw(-1, 3, 0, -1, 0), 3}, {raw(-1, 0, 0, 0, 1), 2}, {raw(1, -1, 1, -1, 1), 0},
	} {
		if got := rootsOf(t, c.p); len(got) != c.want {
			t.Error(c, got)
		}
	}
}

// TestZero: every form of 0 is an error for Roots, beside which there is nothing, and has no roots for the others.
func TestZero(t *testing.T) {
	for _, p := range noPolys() {
		if l, err := isolate.Roots(p); len(l) != 0 || err != api.ErrZero {
			t.Error(p, l, err)
		}
		for _, at := range []api.Rat{{}, fraction(-7, 2), fraction(0, 1)} {
			a, ok := isolate.First(p, at)
			checkFirst(t, a, ok, 0)
			if l := isolate.Within(p, at, fraction(9, 1)); len(l) != 0 {
				t.Error(p, at, l)
			}
			if isolate.Valid(api.Alg{P: p, Lo: at, Hi: fraction(9, 1)}) || isolate.Valid(api.Alg{P: p, Lo: at, Hi: at}) {
				t.Error(p, at)
			}
		}
	}
}

func TestFirst(t *testing.T) {
	for _, k := range knowns() {
		free := k.p.square()
		for _, at := range times() {
			want := k.between(at, nil)
			a, ok := isolate.First(polyOf(k.p), ratOf(at))
			checkKnown(t, free, checkFirst(t, a, ok, len(want)), want[:min(1, len(want))], at, nil)
		}
	}
	d := draw(5)
	polys(func(p api.Poly) {
		c := counterOf(rowOf(p).square())
		for _, at := range []*big.Rat{new(big.Rat), d.time(1), d.time(4)} {
			a, ok := isolate.First(p, ratOf(at))
			checkForm(t, c[0], checkFirst(t, a, ok, c.between(at, nil)), at, nil)
			if ok && (c.between(at, bigRat(a.Hi)) != 1 || !c.one(bigRat(a.Lo), bigRat(a.Hi))) {
				t.Fatal(p, at, a)
			}
		}
	})
}

func TestWithin(t *testing.T) {
	for _, k := range knowns() {
		free := k.p.square()
		pairs(func(lo, hi *big.Rat) {
			checkKnown(t, free, isolate.Within(polyOf(k.p), ratOf(lo), ratOf(hi)), k.between(lo, hi), lo, hi)
		})
	}
	d := draw(6)
	polys(func(p api.Poly) {
		c := counterOf(rowOf(p).square())
		for _, b := range [][2]*big.Rat{{big.NewRat(-1, 2), big.NewRat(3, 1)}, {d.time(1), d.time(4)}, {d.time(3), d.time(1)}} {
			checkCounted(t, c, isolate.Within(p, ratOf(b[0]), ratOf(b[1])), b[0], b[1])
		}
	})
}

// TestAgree: the calls tell of the same roots, and what they return is Valid.
func TestAgree(t *testing.T) {
	polys(func(p api.Poly) {
		l := rootsOf(t, p)
		for i, a := range l {
			if !isolate.Valid(a) {
				t.Fatal(p, a)
			}
			if got := isolate.Within(p, a.Hi, ratOf(rowOf(p).bound())); len(got) != len(l)-1-i {
				t.Fatal(p, l, got)
			}
			next, ok := isolate.First(p, a.Hi)
			if ok != (i < len(l)-1) || ok && !isolate.Valid(next) {
				t.Fatal(p, a, next)
			}
		}
	})
}
