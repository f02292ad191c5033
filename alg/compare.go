package alg

import (
	"slices"

	"orrery/api"
	"orrery/pgcd"
	"orrery/poly"
	"orrery/ratio"
	"orrery/whole"
)

// compare returns -1, 0 or 1 if x is less than, equal to, or greater than y, and narrows both as far as that takes.
func compare(x, y *root) int {
	var both api.Poly
	for {
		switch {
		case y.known():
			return x.against(y.lo())
		case x.known():
			return -y.against(x.lo())
		case x.below(y):
			return -1
		case y.below(x):
			return 1
		}
		if both == nil {
			both = shared(x.from.P, y.from.P)
		}
		if turns(both, slices.MaxFunc([]api.Rat{x.lo(), y.lo()}, ratio.Cmp), slices.MinFunc([]api.Rat{x.hi(), y.hi()}, ratio.Cmp)) {
			return 0
		}
		wider(x, y).narrow()
	}
}

// sign returns the sign at r of p, which is normal.
func (r *root) sign(p api.Poly) int {
	var both api.Poly
	for {
		if s := r.throughout(p); s != 0 || r.known() {
			return s
		}
		if both == nil {
			both = shared(p, r.from.P)
		}
		if turns(both, r.lo(), r.hi()) {
			return 0
		}
		r.narrow()
	}
}

// shared returns the polynomial that has the common roots of p and q, each once; its sign turns at every one of them.
func shared(p, q api.Poly) api.Poly {
	return pgcd.Square(pgcd.Gcd(p, q))
}

// turns tells whether the sign of p just after lo is another one than that at hi. Then p has a root above lo and at most hi; if it is simple and there is no more than one, the reverse holds too.
func turns(p api.Poly, lo, hi api.Rat) bool {
	return after(p, lo) != poly.Sign(p, hi)
}

// wider returns the one of x and y with the longer interval.
func wider(x, y *root) *root {
	if ratio.Cmp(x.width(), y.width()) < 0 {
		return y
	}
	return x
}

// throughout returns the sign that p, which is normal, plainly has from lo to hi; 0 if that is not plain to see, or if r is known and p is 0 there.
func (r *root) throughout(p api.Poly) int {
	low, high := poly.Lead(p), poly.Lead(p)
	scale, v := whole.Of(1), whole.Add(r.u, r.w)
	for i := p.Deg() - 1; i >= 0; i-- {
		scale = whole.Mul(scale, r.d)
		l := []api.Int{whole.Mul(low, r.u), whole.Mul(low, v), whole.Mul(high, r.u), whole.Mul(high, v)}
		x := whole.Mul(p[i], scale)
		low, high = whole.Add(slices.MinFunc(l, whole.Cmp), x), whole.Add(slices.MaxFunc(l, whole.Cmp), x)
	}
	switch {
	case low.Sign() > 0:
		return 1
	case high.Sign() < 0:
		return -1
	}
	return 0
}
