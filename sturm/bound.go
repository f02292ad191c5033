package sturm

import (
	"orrery/api"
	"orrery/poly"
	"orrery/ratio"
)

// Bound returns ErrZero if p is 0; otherwise 1 + m / c, where m is the greatest absolute value of a coefficient below the leading one and c that of the leading one. All real roots are between the negative of this bound and the bound.
func Bound(p api.Poly) (api.Rat, api.Errno) {
	p = poly.Norm(p)
	if len(p) == 0 {
		return api.Rat{}, api.ErrZero
	}
	var below []api.Rat
	for _, x := range p[:p.Deg()] {
		below = append(below, size(x))
	}
	m, c := ratio.Max(api.Rat{}, below...), size(poly.Lead(p))
	return ratio.Quo(ratio.Add(c, m), c)
}

// size returns the absolute value of x.
func size(x api.Int) api.Rat {
	a := ratio.Int(x)
	return ratio.Max(a, ratio.Neg(a))
}
