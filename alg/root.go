package alg

import (
	"orrery/api"
	"orrery/poly"
	"orrery/ratio"
	"orrery/whole"
)

// root is a number whose interval can be narrowed. It is above u / d and below (u + w) / d; where w is 0, it is u / d itself.
type root struct {
	from    api.Alg // the number as it was passed, in the form of a result and in memory of its own
	u, w, d api.Int
	after   int // where w is not 0: the sign of from.P just after u / d, which is the opposite of that at (u + w) / d
	reach   int // how many binary digits the next step is to win
}

// open returns the root that a is. Where a is not Valid it is one too, a root of a's polynomial or a rational number.
func open(a api.Alg) *root {
	lo, hi := fresh(a.Lo), fresh(a.Hi)
	r := &root{from: api.Alg{P: poly.Norm(a.P), Lo: lo, Hi: hi}}
	if ratio.Cmp(lo, hi) < 0 {
		r.after = after(r.from.P, lo)
	}
	if r.after == 0 || poly.Sign(r.from.P, hi) != -r.after {
		// If the only root were below hi, the sign would have changed.
		lo = hi
	}
	r.d = multiple(lo.D, hi.D)
	r.u = ratio.Mul(lo, ratio.Int(r.d)).Int
	r.w = whole.Sub(ratio.Mul(hi, ratio.Int(r.d)).Int, r.u)
	return r
}

// after returns the sign of p just after t, where p has no multiple root.
func after(p api.Poly, t api.Rat) int {
	if s := poly.Sign(p, t); s != 0 {
		return s
	}
	return poly.Sign(poly.Derive(p), t)
}

// multiple returns the least common multiple of a and b, which are above 0.
func multiple(a, b api.Int) api.Int {
	by, _ := whole.Exact(b, whole.Gcd(a, b))
	return whole.Mul(a, by)
}

// known tells whether the number is not only narrowed but known.
func (r *root) known() bool {
	return r.w.Zero()
}

// lo returns the lower end of the interval, not in lowest terms.
func (r *root) lo() api.Rat {
	return api.Rat{Int: r.u, D: r.d}
}

// hi returns the upper end of the interval, not in lowest terms.
func (r *root) hi() api.Rat {
	return api.Rat{Int: whole.Add(r.u, r.w), D: r.d}
}

// width returns the length of the interval, not in lowest terms.
func (r *root) width() api.Rat {
	return api.Rat{Int: r.w, D: r.d}
}

// below tells whether the interval of r is below that of s, so that, if they are different numbers, r is less.
func (r *root) below(s *root) bool {
	return ratio.Cmp(r.hi(), s.lo()) <= 0
}

// against returns -1, 0 or 1 if r is less than, equal to, or greater than t.
func (r *root) against(t api.Rat) int {
	switch {
	case r.known():
		return ratio.Cmp(r.lo(), t)
	case ratio.Cmp(t, r.lo()) <= 0:
		return 1
	case ratio.Cmp(t, r.hi()) >= 0:
		return -1
	}
	// Up to the number the sign remains what it is just after lo.
	return r.after * poly.Sign(r.from.P, t)
}
