package sturm_test

import (
	"math/big"
	"slices"
	"testing"

	"orrery/api"
	"orrery/sturm"
)

// place is where a number x lies on the line: x times its absolute value. It is rational for square roots too, and rises with x.
type place = *big.Rat

// placeOf is the place of a rational number.
func placeOf(x *big.Rat) place {
	return new(big.Rat).Mul(x, new(big.Rat).Abs(x))
}

// known is a polynomial with the places of its real roots.
type known struct {
	p     row
	roots []place
}

// linear is d t - n.
func linear(n, d int64) known {
	return known{small(-n, d), []place{placeOf(big.NewRat(n, d))}}
}

// roots is d t^2 - n: two roots, or none.
func roots(n, d int64) known {
	x := big.NewRat(n, d)
	if x.Sign() < 0 {
		return known{small(-n, 0, d), nil}
	}
	return known{small(-n, 0, d), []place{new(big.Rat).Neg(x), x}}
}

// and is the product; a root that both have is kept once.
func (k known) and(l known) known {
	out := known{k.p.times(l.p), append(slices.Clone(k.roots), l.roots...)}
	slices.SortFunc(out.roots, place.Cmp)
	out.roots = slices.CompactFunc(out.roots, func(a, b place) bool { return a.Cmp(b) == 0 })
	return out
}

// count is how many roots are above lo and at most hi; nil bounds nothing.
func (k known) count(lo, hi *big.Rat) int {
	n := 0
	for _, r := range k.roots {
		if (lo == nil || r.Cmp(placeOf(lo)) > 0) && (hi == nil || r.Cmp(placeOf(hi)) <= 0) {
			n++
		}
	}
	return n
}

// knowns are polynomials with known roots, multiple ones among them.
func knowns() []known {
	one := known{p: small(1)}
	out := []known{one, {p: small(-5)}, linear(0, 1), linear(3, -2), roots(2, 1), roots(-2, -1), roots(-3, 2), linear(1, 1).and(linear(1, 1)), linear(0, 1).and(roots(2, 1)).and(linear(0, 1))}
	d := draw(3)
	for i := range 150 {
		k := known{p: small(int64(d.next(2)*8 - 4))}
		for range 1 + i%5 {
			f := linear(int64(d.next(9)-4), int64(1+d.next(3)))
			switch d.next(4) {
			case 0:
				f = roots(int64(1+d.next(8)), int64(1+d.next(2)))
			case 1:
				f = known{p: []row{small(1, 0, 1), small(-3, 2, -1), small(2, 0, 0, 0, 1)}[d.next(3)]}
			}
			for range 1 + d.next(3) {
				k = k.and(f)
			}
		}
		out = append(out, k)
	}
	return out
}

// times are times at, between and far from the roots of knowns, rising.
func times() []*big.Rat {
	out := []*big.Rat{big.NewRat(-1<<40, 3), big.NewRat(1<<40, 3)}
	for n := int64(-30); n <= 30; n++ {
		out = append(out, big.NewRat(n, 6))
	}
	for _, x := range [][2]int64{{7, 5}, {10, 7}, {99, 70}, {140, 99}, {1, 1 << 40}} {
		out = append(out, big.NewRat(x[0], x[1]), big.NewRat(-x[0], x[1]))
	}
	slices.SortFunc(out, (*big.Rat).Cmp)
	return out
}

func TestBetween(t *testing.T) {
	l := times()
	for _, k := range knowns() {
		c := chainOf(t, polyOf(k.p))
		for i, lo := range l {
			for n, hi := range l {
				// All pairs would take long: neighbours, equal ones, wrong ones and far ones do.
				if (n-i < -2 || n-i > 2) && (n+i)%9 != 0 {
					continue
				}
				if got, want := c.Between(ratOf(lo), ratOf(hi)), k.count(lo, hi); got != want {
					t.Fatal(k, lo, hi, got, want)
				}
			}
		}
	}
}

func TestAbove(t *testing.T) {
	for _, k := range knowns() {
		c := chainOf(t, polyOf(k.p))
		for _, at := range times() {
			if got, want := c.Above(ratOf(at)), k.count(at, nil); got != want {
				t.Fatal(k, at, got, want)
			}
		}
	}
}

func TestCount(t *testing.T) {
	for _, k := range knowns() {
		if got := chainOf(t, polyOf(k.p)).Count(); got != len(k.roots) {
			t.Fatal(k, got)
		}
	}
	for _, c := range []struct {
		p    api.Poly
		want int
	}{
		{raw(-2, 0, 1), 2}, {raw(2, 0, 1), 0}, {raw(0, 0, 1), 1}, {raw(-5), 0}, {raw(1, 0, 0, 1), 1}, {raw(1, -3, 0, 1), 3}, {raw(-1, 3, 0, -1, 0), 3}, {raw(-1, 0, 0, 0, 1), 2}, {raw(1, -1, 1, -1, 1), 0},
	} {
		if got := chainOf(t, c.p).Count(); got != c.want {
			t.Error(c, got)
		}
	}
}

// TestAgree: the counts of one polynomial fit together, whatever its roots are.
func TestAgree(t *testing.T) {
	polys(func(p api.Poly) {
		c := chainOf(t, p)
		bound, err := sturm.Bound(p)
		if err != api.OK {
			t.Fatal(p, err)
		}
		minus := api.Rat{Int: api.Int{Neg: true, L: bound.L}, D: bound.D}
		mid := ratOf(big.NewRat(-1, 3))
		n := c.Count()
		if c.Between(minus, bound) != n || c.Above(minus) != n || c.Above(bound) != 0 {
			t.Fatal(p, n, bound)
		}
		if c.Between(minus, mid)+c.Above(mid) != n || c.Between(mid, bound) != c.Above(mid) || c.Between(bound, minus) != 0 {
			t.Fatal(p, n, bound)
		}
	})
}

// TestClose has the longest polynomial that the limits let be with all roots known, and roots that only a long time tells apart.
func TestClose(t *testing.T) {
	k := known{p: small(1)}
	for n := range int64(api.MaxTerms - 1) {
		k = k.and(linear(n-20, 7))
	}
	c := chainOf(t, polyOf(k.p))
	if got := c.Count(); got != api.MaxTerms-1 {
		t.Error(got)
	}
	for _, at := range []*big.Rat{big.NewRat(-3, 1), big.NewRat(-20, 7), big.NewRat(1, 7), big.NewRat(3, 14), big.NewRat(41, 7), big.NewRat(42, 7)} {
		if got, want := c.Above(ratOf(at)), k.count(at, nil); got != want {
			t.Error(at, got, want)
		}
	}
	// The roots are 1 and 1 + 1/2^1500.
	long := new(big.Int).Lsh(big.NewInt(1), 1500)
	root := new(big.Rat).SetFrac(new(big.Int).Add(long, big.NewInt(1)), long)
	p := small(-1, 1).times(row{new(big.Rat).SetInt(root.Num()), new(big.Rat).SetInt(new(big.Int).Neg(root.Denom()))})
	mid := new(big.Rat).Quo(new(big.Rat).Add(root, big.NewRat(1, 1)), big.NewRat(2, 1))
	c = chainOf(t, polyOf(p))
	one, far := ratOf(big.NewRat(1, 1)), ratOf(big.NewRat(2, 1))
	for i, got := range []int{c.Count(), c.Between(one, far), c.Between(one, ratOf(mid)), c.Between(ratOf(mid), ratOf(root)), c.Between(ratOf(root), far), c.Above(ratOf(mid))} {
		if want := []int{2, 1, 0, 1, 0, 1}[i]; got != want {
			t.Error(i, got, want)
		}
	}
}

func TestBound(t *testing.T) {
	polys(func(p api.Poly) {
		r := rowOf(p)
		top := new(big.Rat).Abs(r[len(r)-1])
		want := big.NewRat(1, 1)
		for _, x := range r[:len(r)-1] {
			b := new(big.Rat).Quo(new(big.Rat).Abs(x), top)
			if b.Add(b, big.NewRat(1, 1)); b.Cmp(want) > 0 {
				want = b
			}
		}
		if got, err := sturm.Bound(p); err != api.OK || !sameRat(got, ratOf(want)) {
			t.Fatal(p, got, err, want)
		}
	})
	for _, c := range []struct {
		p    api.Poly
		n, d int64
	}{
		{raw(1), 1, 1}, {raw(-8, 0), 1, 1}, {raw(0, 0, 5), 1, 1}, {raw(-2, 0, 1), 3, 1}, {raw(4, -6), 5, 3}, {raw(-9, 7, 6), 5, 2}, {raw(7, -9, -6, 0), 5, 2}, {raw(1, 1, 100), 101, 100},
		// The coefficients of p itself count, not those of its squarefree part.
		{raw(1, -2, 1), 3, 1},
	} {
		if got, err := sturm.Bound(c.p); err != api.OK || !sameRat(got, ratOf(big.NewRat(c.n, c.d))) {
			t.Error(c, got, err)
		}
	}
}
