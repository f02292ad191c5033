package pgcd

import "orrery/api"

// first is the greatest prime below 2^31. The numbers modulo a prime of this size are multiplied, and put before a limb, within 64 bits.
const first = 1<<31 - 1

// before returns the greatest prime below p, an odd number; 1 if there is no odd one.
func before(p uint64) uint64 {
	p -= 2
	for p > 1 && !prime(p) {
		p -= 2
	}
	return p
}

// prime tells whether n, odd and from 3 to 2^31, is a prime. Of the composite numbers of this size, none passes Miller and Rabin's test with all four bases.
func prime(n uint64) bool {
	for _, base := range [4]uint64{2, 3, 5, 7} {
		if n == base {
			return true
		}
		if !passes(n, base) {
			return false
		}
	}
	return true
}

// passes is Miller and Rabin's test: base^d is 1, or one of base^d, base^2d, base^4d, .. is -1, where n - 1 is d times a power of 2, and the last one is base^((n-1)/2).
func passes(n, base uint64) bool {
	d := (n - 1) / 2
	for d%2 == 0 {
		d /= 2
	}
	x := power(base, d, n)
	if x == 1 {
		return true
	}
	for ; d < n-1; d *= 2 {
		if x == n-1 {
			return true
		}
		x = x * x % n
	}
	return false
}

// power returns x^e modulo p.
func power(x, e, p uint64) uint64 {
	out := uint64(1)
	for x %= p; e > 0; e /= 2 {
		if e%2 == 1 {
			out = out * x % p
		}
		x = x * x % p
	}
	return out
}

// inverse returns 1 / x modulo the prime p; x is not 0.
func inverse(x, p uint64) uint64 {
	return power(x, p-2, p)
}

// residue returns a modulo p.
func residue(a api.Int, p uint64) uint64 {
	n := uint64(0)
	for i := len(a.L) - 1; i >= 0; i-- {
		n = (n<<32 | uint64(a.L[i])) % p
	}
	if a.Neg && n > 0 {
		return p - n
	}
	return n
}

// imageOf returns a modulo p, as the other polynomials modulo p: the lowest coefficient first, without zeros on top.
func imageOf(a api.Poly, p uint64) []uint64 {
	out := make([]uint64, len(a))
	for i, x := range a {
		out[i] = residue(x, p)
	}
	return cut(out)
}

// cut returns a without the zeros on top.
func cut(a []uint64) []uint64 {
	for len(a) > 0 && a[len(a)-1] == 0 {
		a = a[:len(a)-1]
	}
	return a
}

// scaled returns c a modulo p in a's memory.
func scaled(a []uint64, c, p uint64) []uint64 {
	for i, x := range a {
		a[i] = x * c % p
	}
	return a
}

// euclid returns the greatest common divisor of a and b modulo p, its leading coefficient 1, in the memory of one of them; they are not both 0.
func euclid(a, b []uint64, p uint64) []uint64 {
	for len(b) > 0 {
		b = scaled(b, inverse(b[len(b)-1], p), p)
		a, b = b, remainder(a, b, p)
	}
	return scaled(a, inverse(a[len(a)-1], p), p)
}

// remainder returns a modulo b and p in a's memory; b's leading coefficient is 1.
func remainder(a, b []uint64, p uint64) []uint64 {
	n := len(b) - 1
	for i := len(a) - 1; i >= n; i-- {
		turned := p - a[i]
		for k, y := range b {
			a[i-n+k] = (a[i-n+k] + turned*y) % p
		}
	}
	return cut(a[:min(n, len(a))])
}
