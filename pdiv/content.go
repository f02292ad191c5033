package pdiv

import (
	"slices"

	"orrery/api"
	"orrery/poly"
	"orrery/whole"
)

// Content returns the greatest common divisor of all coefficients of all arguments, 0 without arguments and if all of them are 0.
func Content(l ...api.Poly) api.Int {
	return whole.Gcd(slices.Concat(l...)...)
}

// Primitive returns c and b with a = c b, where the content of b is 1 and its leading coefficient is above 0; 0 and 0 for 0.
func Primitive(a api.Poly) (api.Int, api.Poly) {
	c := Content(a)
	if poly.Lead(a).Neg {
		c = whole.Neg(c)
	}
	return c, divided(a, c)
}

// divided returns a / c; c divides all coefficients, and is 0 only if a is.
func divided(a api.Poly, c api.Int) api.Poly {
	out := poly.Norm(a)
	for i, x := range out {
		out[i], _ = whole.Exact(x, c)
	}
	return out
}
