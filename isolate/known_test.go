package isolate_test

import (
	"math/big"
	"slices"

	"orrery/api"
)

// place is where a number x lies on the line: x times its absolute value. It is rational for square roots too, and rises with x.
type place = *big.Rat

// placeOf is the place of a rational number.
func placeOf(x *big.Rat) place {
	return new(big.Rat).Mul(x, new(big.Rat).Abs(x))
}

// known is a polynomial with the places of its real roots, rising.
type known struct {
	p     row
	roots []place
}

// linear is d t - n.
func linear(n, d int64) known {
	return known{small(-n, d), []place{placeOf(big.NewRat(n, d))}}
}

// roots is d t^2 - n: two roots, or none.
func roots(n, d int64) known {
	x := big.NewRat(n, d)
	if x.Sign() < 0 {
		return known{small(-n, 0, d), nil}
	}
	return known{small(-n, 0, d), []place{new(big.Rat).Neg(x), x}}
}

// and is the product; a root that both have is kept once.
func (k known) and(l known) known {
	out := known{k.p.times(l.p), append(slices.Clone(k.roots), l.roots...)}
	slices.SortFunc(out.roots, place.Cmp)
	out.roots = slices.CompactFunc(out.roots, func(a, b place) bool { return a.Cmp(b) == 0 })
	return out
}

// between are the roots above lo and at most hi; nil bounds nothing.
func (k known) between(lo, hi *big.Rat) []place {
	var out []place
	for _, r := range k.roots {
		if (lo == nil || r.Cmp(placeOf(lo)) > 0) && (hi == nil || r.Cmp(placeOf(hi)) <= 0) {
			out = append(out, r)
		}
	}
	return out
}

// has tells whether the root lies where a says that it does.
func has(a api.Alg, r place) bool {
	lo, hi := placeOf(bigRat(a.Lo)), placeOf(bigRat(a.Hi))
	return r.Cmp(hi) == 0 || lo.Cmp(r) < 0 && r.Cmp(hi) < 0
}

// knowns are polynomials with known roots, multiple ones among them.
func knowns() []known {
	one := known{p: small(1)}
	out := []known{one, {p: small(-5)}, linear(0, 1), linear(3, -2), roots(2, 1), roots(-2, -1), roots(-3, 2), linear(1, 1).and(linear(1, 1)), linear(0, 1).and(roots(2, 1)).and(linear(0, 1))}
	d := draw(3)
	for i := range 100 {
		k := known{p: small(int64(d.next(2)*8 - 4))}
		for range 1 + i%5 {
			f := linear(int64(d.next(9)-4), int64(1+d.next(3)))
			switch d.next(4) {
			case 0:
				f = roots(int64(1+d.next(8)), int64(1+d.next(2)))
			case 1:
				f = known{p: []row{small(1, 0, 1), small(-3, 2, -1), small(2, 0, 0, 0, 1)}[d.next(3)]}
			}
			for range 1 + d.next(3) {
				k = k.and(f)
			}
		}
		out = append(out, k)
	}
	return out
}

// times are times at, between and far from the roots of knowns, rising.
func times() []*big.Rat {
	out := []*big.Rat{big.NewRat(-1<<40, 3), big.NewRat(1<<40, 3)}
	for n := int64(-30); n <= 30; n++ {
		out = append(out, big.NewRat(n, 6))
	}
	for _, x := range [][2]int64{{7, 5}, {10, 7}, {99, 70}, {140, 99}, {1, 1 << 40}} {
		out = append(out, big.NewRat(x[0], x[1]), big.NewRat(-x[0], x[1]))
	}
	slices.SortFunc(out, (*big.Rat).Cmp)
	return out
}

// pairs calls f with pairs of times: neighbours, equal ones, wrong ones and far ones. All pairs would take long.
func pairs(f func(lo, hi *big.Rat)) {
	l := times()
	for i, lo := range l {
		for n, hi := range l {
			if n-i >= -1 && n-i <= 2 || (n+i)%17 == 0 {
				f(lo, hi)
			}
		}
	}
}
