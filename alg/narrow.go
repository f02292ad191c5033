package alg

import (
	"orrery/api"
	"orrery/poly"
	"orrery/whole"
)

const (
	leastReach = 4   // below it, halving wins as much with less work
	mostReach  = 256 // power knows no more
)

// shorten narrows r until its interval is no longer than 1 / parts.
func (r *root) shorten(parts api.Int) {
	for whole.Cmp(whole.Mul(r.w, parts), r.d) > 0 {
		r.narrow()
	}
}

// narrow makes the interval shorter; where a guess misses the number, it only makes the next step more careful. Near a root a polynomial is almost a straight line, so that guesses along this line win twice the digits at each step. Where it is not, the interval is halved.
func (r *root) narrow() {
	switch {
	case r.reach < leastReach:
		r.keep(1, whole.Of(1))
		r.reach++
	case r.keep(r.reach, r.guess(r.reach)):
		r.reach = min(2*r.reach, mostReach)
	default:
		r.reach /= 2
	}
}

// guess returns which of the cuts of the interval into 2^digits parts is the nearest to where a straight line from end to end is 0.
func (r *root) guess(digits int) api.Int {
	low := value(r.from.P, r.u, r.d)
	drop := whole.Sub(low, value(r.from.P, whole.Add(r.u, r.w), r.d))
	// At the ends the signs are opposite, so that both numbers have the same sign.
	low, drop = whole.Abs(low), whole.Abs(drop)
	parts := power(digits)
	n, _, _ := whole.DivMod(whole.Sum(whole.Product(whole.Of(2), parts, low), drop), whole.Add(drop, drop))
	return within(n, whole.Of(1), whole.Sub(parts, whole.Of(1)))
}

// within returns that number from lo to hi that is the nearest to n.
func within(n, lo, hi api.Int) api.Int {
	switch {
	case whole.Cmp(n, lo) < 0:
		return lo
	case whole.Cmp(n, hi) > 0:
		return hi
	}
	return n
}

// keep cuts the interval into 2^digits parts and keeps, of the two beside the n-th cut, the one with the number in it. It returns false if there is none, and changes nothing then.
func (r *root) keep(digits int, n api.Int) bool {
	parts := power(digits)
	u, d := whole.Mul(r.u, parts), whole.Mul(r.d, parts)
	cut := whole.Add(u, whole.Mul(r.w, n))
	side := r.after * value(r.from.P, cut, d).Sign()
	if side == 0 {
		r.set(cut, d)
		return true
	}
	// On the side where the number is, the next cut is the part's other end; the ends of the interval have their signs.
	next := whole.Add(n, whole.Of(side))
	if !next.Zero() && whole.Cmp(next, parts) != 0 {
		end := whole.Add(u, whole.Mul(r.w, next))
		switch r.after * value(r.from.P, end, d).Sign() {
		case 0:
			r.set(end, d)
			return true
		case side:
			return false
		}
	}
	if side < 0 {
		n = next
	}
	r.u, r.d = whole.Add(u, whole.Mul(r.w, n)), d
	return true
}

// set makes r the known number u / d.
func (r *root) set(u, d api.Int) {
	r.u, r.w, r.d = u, whole.Of(0), d
}

// value returns d^k p(u / d), where k is the degree of p, which is normal.
func value(p api.Poly, u, d api.Int) api.Int {
	out, scale := poly.Lead(p), whole.Of(1)
	for i := p.Deg() - 1; i >= 0; i-- {
		scale = whole.Mul(scale, d)
		out = whole.Add(whole.Mul(out, u), whole.Mul(p[i], scale))
	}
	return out
}

// power returns 2^n; n below 0 counts as 0, n above 256 as 256.
func power(n int) api.Int {
	return whole.Pow(whole.Of(2), n)
}
