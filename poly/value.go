package poly

import (
	"orrery/api"
	"orrery/ratio"
	"orrery/whole"
)

// value returns the numerator and the denominator of a at t, the latter above 0. They are not in lowest terms: for a sign they need not be.
func value(a api.Poly, t api.Rat) (n, d api.Int) {
	a = trim(a)
	// The greatest of one number is this number in the form of a result.
	t = ratio.Max(t)
	n, d = Lead(a), whole.Of(1)
	for i := a.Deg() - 1; i >= 0; i-- {
		d = whole.Mul(d, t.D)
		n = whole.Add(whole.Mul(n, t.Int), whole.Mul(a[i], d))
	}
	return n, d
}

// At returns the value of a at t.
func At(a api.Poly, t api.Rat) api.Rat {
	// There is no error, since the denominator is never 0.
	out, _ := ratio.Make(value(a, t))
	return out
}

// Sign returns the sign of the value of a at t.
func Sign(a api.Poly, t api.Rat) int {
	n, _ := value(a, t)
	return n.Sign()
}

// Ends returns the signs of a far below 0 and far above 0, 0 and 0 for the polynomial 0.
func Ends(a api.Poly) (minus, plus int) {
	a = trim(a)
	plus = Lead(a).Sign()
	if a.Deg()%2 == 1 {
		return -plus, plus
	}
	return plus, plus
}

// Move returns ErrZero if d is 0; otherwise d^k a(t + n / d), where k is the degree of a, 0 if a is 0.
func Move(a api.Poly, n, d api.Int) (api.Poly, api.Errno) {
	if whole.Cmp(d, api.Int{}) == 0 {
		return nil, api.ErrZero
	}
	// With u for d t it is d^k a((u + n) / d), in which no step leaves the integers.
	out := widened(a, d)
	shift(out, n)
	return narrowed(out, d), api.OK
}

// widened returns d^k a(u / d), where k is the degree of a.
func widened(a api.Poly, d api.Int) api.Poly {
	a = trim(a)
	out, power := make(api.Poly, len(a)), whole.Of(1)
	for i := a.Deg(); i >= 0; i-- {
		out[i] = whole.Mul(a[i], power)
		power = whole.Mul(power, d)
	}
	return out
}

// shift makes a(u + n) of a, in a's memory: each round divides by u - n what the last one has left, and leaves the next coefficient as its remainder.
func shift(a api.Poly, n api.Int) {
	for low := range a {
		for i := a.Deg() - 1; i >= low; i-- {
			a[i] = whole.Add(a[i], whole.Mul(a[i+1], n))
		}
	}
}

// narrowed returns a(d t).
func narrowed(a api.Poly, d api.Int) api.Poly {
	out, power := make(api.Poly, len(a)), whole.Of(1)
	for i, x := range a {
		out[i] = whole.Mul(x, power)
		power = whole.Mul(power, d)
	}
	return out
}
