package pgcd

import (
	"orrery/api"
	"orrery/pdiv"
	"orrery/poly"
)

// Square returns the squarefree part of a: the product of all its factors, 1 for a constant, 0 for 0.
func Square(a api.Poly) api.Poly {
	_, a = pdiv.Primitive(a)
	return quotient(a, Gcd(a, poly.Derive(a)))
}

// Factors returns f1, f2, .., fk: squarefree, pairwise coprime polynomials with a = c f1 f2^2 .. fk^k for a constant c, where fk is not 1; none for a constant, and for 0.
func Factors(a api.Poly) []api.Poly {
	slope := poly.Derive(a)
	g := Gcd(a, slope)
	// With i factors taken off, left is the product of the others, and rest / left is the sum of (j - i - 1) fj' / fj over them. Where j is i + 1 this is 0, so that factor divides rest; the others have nothing in common with it.
	left := quotient(a, g)
	rest := poly.Sub(quotient(slope, g), poly.Derive(left))
	var out []api.Poly
	for left.Deg() > 0 {
		f := Gcd(left, rest)
		out = append(out, f)
		left = quotient(left, f)
		rest = poly.Sub(quotient(rest, f), poly.Derive(left))
	}
	return out
}

// Odd returns the product of the factors that occur an odd number of times, 1 for a constant, 0 for 0.
func Odd(a api.Poly) api.Poly {
	if poly.Lead(a).Zero() {
		return nil
	}
	var odd []api.Poly
	for i, f := range Factors(a) {
		if i%2 == 0 {
			odd = append(odd, f)
		}
	}
	return poly.Product(odd...)
}

// quotient returns a / b for a primitive b that divides a, which comes out even by Gauss's lemma; 0 if both are 0.
func quotient(a, b api.Poly) api.Poly {
	q, _ := pdiv.Exact(a, b)
	return q
}
