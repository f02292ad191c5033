package isolate

import (
	"math/bits"

	"orrery/api"
	"orrery/ratio"
	"orrery/sturm"
)

const limbBits = 32

// span is the numbers above lo and at most hi, both of which are in the form of a result.
type span struct {
	lo, hi api.Rat
}

// everywhere returns a span with all real roots of p in it.
func everywhere(p api.Poly) span {
	// 0 has no bound. It gets a span too, in which no root is found.
	bound, _ := sturm.Bound(p)
	hi := power(length(ratio.Floor(bound)))
	return span{ratio.Neg(hi), hi}
}

// above returns the part of s above t.
func (s span) above(t api.Rat) span {
	s.lo = ratio.Max(s.lo, t)
	return s
}

// upTo returns the part of s at most t.
func (s span) upTo(t api.Rat) span {
	s.hi = ratio.Neg(ratio.Max(ratio.Neg(s.hi), ratio.Neg(t)))
	return s
}

// empty tells whether there is no number in s.
func (s span) empty() bool {
	return ratio.Cmp(s.lo, s.hi) >= 0
}

// cut returns a number above lo and below hi; s is not empty. Parts that are cut again and again become as short as one likes.
func (s span) cut() api.Rat {
	switch {
	case s.hi.Sign() <= 0:
		return ratio.Neg(span{ratio.Neg(s.hi), ratio.Neg(s.lo)}.cut())
	case s.lo.Sign() < 0:
		return ratio.Int(api.Int{})
	}
	high := size(s.hi)
	if s.lo.Zero() {
		// The exponent doubles, so that roots very near 0 are reached soon.
		return power(min(0, 2*high) - 1)
	}
	if low := size(s.lo); high-low > 1 {
		// Halving would take as many cuts as the exponents are apart.
		return power((low + high) >> 1)
	}
	return s.middle()
}

// middle returns a number not far from the middle of s, rounded so that it is short even where lo and hi are long.
func (s span) middle() api.Rat {
	step := power(size(ratio.Sub(s.hi, s.lo)) - 4)
	steps, _ := ratio.Quo(ratio.Mid(s.lo, s.hi), step)
	return ratio.Mul(ratio.Int(ratio.Floor(steps)), step)
}

// size returns an e for which t, a number above 0, is above 2^(e - 1) and below 2^(e + 1).
func size(t api.Rat) int {
	return length(t.Int) - length(t.D)
}

// length returns the number of binary digits of a, which is normal.
func length(a api.Int) int {
	if a.Zero() {
		return 0
	}
	top := len(a.L) - 1
	return top*limbBits + bits.Len32(a.L[top])
}

// power returns 2^e.
func power(e int) api.Rat {
	one := api.Int{L: []uint32{1}}
	if e < 0 {
		return api.Rat{Int: one, D: shifted(-e)}
	}
	return api.Rat{Int: shifted(e), D: one}
}

// shifted returns 2^e for an e that is not below 0.
func shifted(e int) api.Int {
	l := make([]uint32, e/limbBits+1)
	l[e/limbBits] = 1 << (e % limbBits)
	return api.Int{L: l}
}
