package pgcd

import (
	"orrery/api"
	"orrery/pdiv"
	"orrery/poly"
	"orrery/whole"
)

// shared returns the greatest common divisor of a and b, which are primitive and of a degree above 0. It is put together from the divisors modulo several primes: those have no long numbers on the way, as Euclid's way over the integers has.
func shared(a, b api.Poly) api.Poly {
	// The divisor's leading coefficient divides this number; multiplied up to it, the divisor fits together with what the primes say.
	lead := whole.Gcd(poly.Lead(a), poly.Lead(b))
	var g guess
	for p := uint64(first); p > 2; p = before(p) {
		top := residue(lead, p)
		if top == 0 {
			// The divisor could lose degrees modulo this prime. Modulo every other one, that of the images has at least its degree.
			continue
		}
		image := euclid(imageOf(a, p), imageOf(b, p), p)
		if len(image) == 1 {
			break
		}
		if !g.meets(scaled(image, top, p), p) {
			continue
		}
		if _, h := pdiv.Primitive(g.p); divides(h, a) && divides(h, b) {
			return h
		}
	}
	// Either a prime has shown it, or the primes have run out, which takes numbers far beyond the limits.
	return poly.Of(1)
}

// divides tells whether the primitive polynomial h divides a.
func divides(h, a api.Poly) bool {
	_, err := pdiv.Exact(a, h)
	return err == api.OK
}

// guess is a polynomial modulo a product of primes, with coefficients from -modulus/2 to modulus/2.
type guess struct {
	p       api.Poly
	modulus api.Int
}

// meets makes g right modulo the prime p too, and tells whether it was already.
func (g *guess) meets(image []uint64, p uint64) bool {
	if len(g.p) > 0 && len(image) > len(g.p) {
		// Modulo this prime, the two polynomials have more in common than over the integers.
		return false
	}
	if len(image) != len(g.p) {
		// The primes so far had that fault, or there were none.
		*g = guess{make(api.Poly, len(image)), whole.Of(1)}
	}
	met, by := true, inverse(residue(g.modulus, p), p)
	for i, x := range image {
		n := (x + p - residue(g.p[i], p)) % p * by % p
		if n > 0 {
			g.p[i] = whole.Add(g.p[i], whole.Mul(g.modulus, centred(n, p)))
			met = false
		}
	}
	g.modulus = whole.Mul(g.modulus, whole.Of(int(p)))
	return met
}

// centred returns the number from -p/2 to p/2 that is n modulo p.
func centred(n, p uint64) api.Int {
	if n > p/2 {
		return whole.Of(int(n) - int(p))
	}
	return whole.Of(int(n))
}
