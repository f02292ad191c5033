package pgcd_test

import (
	"math/big"
	"testing"

	"orrery/api"
	"orrery/pgcd"
)

// checkGcd tells whether Gcd and Coprime answer for a and b what they are to answer.
func checkGcd(t *testing.T, a, b api.Poly) {
	t.Helper()
	want := rowOf(a).gcd(rowOf(b))
	check(t, pgcd.Gcd(a, b), want, a, b)
	if got := pgcd.Coprime(a, b); got != (len(want) == 1) {
		t.Fatal(a, b, got, want)
	}
}

func TestGcd(t *testing.T) {
	pairs(func(a, b api.Poly) { checkGcd(t, a, b) })
	for _, c := range []struct {
		l    []api.Poly
		want api.Poly
	}{
		{nil, nil}, {[]api.Poly{}, nil}, {noPolys(), nil},
		{[]api.Poly{raw(4, -6)}, raw(-2, 3)}, {[]api.Poly{raw(-7)}, raw(1)}, {append(noPolys(), raw(9, 0, -3)), raw(-3, 0, 1)},
		{[]api.Poly{raw(6), raw(4)}, raw(1)}, {[]api.Poly{raw(6), raw(0, 6)}, raw(1)}, {[]api.Poly{raw(0, 4), raw(0, 6)}, raw(0, 1)}, {[]api.Poly{raw(0, -4), nil, raw(0, 0, -6)}, raw(0, 1)},
		{[]api.Poly{raw(2, 4), raw(3, 6)}, raw(1, 2)}, {[]api.Poly{raw(-1, 0, 1), raw(1, -1)}, raw(-1, 1)},
		// Each two have a common divisor, but all three have none.
		{[]api.Poly{raw(-1, 0, 1), raw(2, 3, 1), raw(-2, 1, 1)}, raw(1)},
		{[]api.Poly{raw(-1, 0, 1), raw(2, 3, 1), raw(0, 1, 1)}, raw(1, 1)},
		{[]api.Poly{raw(1), raw(0, 1), nil}, raw(1)}, {[]api.Poly{nil, raw(0, 1), raw(5)}, raw(1)},
	} {
		if got := pgcd.Gcd(c.l...); !same(got, c.want) {
			t.Error(c, got)
		}
	}
}

func TestCoprime(t *testing.T) {
	for _, c := range []struct {
		a, b api.Poly
		want bool
	}{
		{nil, nil, false}, {nil, raw(7), true}, {raw(-7), nil, true}, {nil, raw(0, 1), false}, {raw(4), raw(6), true}, {raw(0, 4), raw(6), true},
		{raw(1, 1), raw(-1, 1), true}, {raw(1, 1), raw(-2, -2), false}, {raw(-1, 0, 1), raw(1, 1), false}, {raw(-2, 0, 1), raw(-3, 0, 1), true}, {raw(-2, 0, 1), raw(-4, 0, 0, 0, 1), false},
	} {
		if got := pgcd.Coprime(c.a, c.b); got != c.want {
			t.Error(c, got)
		}
	}
}

// TestGcdOfMany has rows of multiples of one polynomial.
func TestGcdOfMany(t *testing.T) {
	d := draw(3)
	for i := range 300 {
		by := rowOf(d.poly(1+i%4, 1+i%4))
		var l []api.Poly
		var want row
		for range d.next(6) {
			r := by.times(rowOf(d.poly(1+i%3, 2)))
			l = append(l, polyOf(r))
			want = want.gcd(r)
		}
		check(t, pgcd.Gcd(l...), want, l)
	}
}

// near are numbers that are 0 or 1 modulo the greatest primes below 2^31, and of no use or misleading there.
func near() []*big.Int {
	p, q := big.NewInt(1<<31-1), big.NewInt(1<<31-19)
	both := new(big.Int).Mul(p, q)
	three := new(big.Int).Mul(both, big.NewInt(1<<31-61))
	out := []*big.Int{big.NewInt(1), p, q, both, three, new(big.Int).Mul(p, p)}
	for _, n := range []*big.Int{p, both, three} {
		out = append(out, new(big.Int).Add(n, big.NewInt(1)), new(big.Int).Sub(n, big.NewInt(3)), new(big.Int).Neg(n))
	}
	return out
}

// TestGcdOfPrimes has polynomials whose coefficients, and whose differences, are divided by great primes.
func TestGcdOfPrimes(t *testing.T) {
	one, l := big.NewInt(1), near()
	for _, m := range l {
		for _, n := range l {
			// t + 1 and t + 1 + m are the same modulo the primes in m; so are n t^2 + t + 1 and t + 1 modulo those in n.
			a, b := row{one, one}, row{new(big.Int).Add(m, one), one}
			c, e := row{m, n}, row{one, m, n}
			for _, pair := range [][2]row{{a, b}, {c, e}, {a, c}, {b, e}, {e, a}, {c, b}} {
				x, y := pair[0], pair[1]
				checkGcd(t, polyOf(x), polyOf(y))
				for _, by := range []row{a, b, c, e} {
					checkGcd(t, polyOf(x.times(by)), polyOf(y.times(by)))
				}
			}
		}
	}
}

// TestGcdLimits has the longest polynomials that the limits let be: a and a + 1 have nothing in common, so c is all that c a and c (a + 1) have.
func TestGcdLimits(t *testing.T) {
	d := draw(4)
	checkCoprime := func(a, b api.Poly) {
		if !pgcd.Coprime(a, b) || !pgcd.Coprime(b, a) || !same(pgcd.Gcd(a, b), raw(1)) {
			t.Error(a, b)
		}
	}
	checkCoprime(d.long(api.MaxTerms, api.MaxLimbs), d.long(api.MaxTerms, api.MaxLimbs))
	for _, terms := range []int{2, 32, 63} {
		for _, size := range []int{1, 32, 62} {
			a := rowOf(d.long(65-terms, 63-size))
			b := a.plus(row{big.NewInt(1)})
			checkCoprime(polyOf(a), polyOf(b))
			c := rowOf(d.long(terms, size))
			check(t, pgcd.Gcd(polyOf(a.times(c)), polyOf(b.times(c))), c.primitive(), terms, size)
		}
	}
	a := d.long(api.MaxTerms, api.MaxLimbs)
	check(t, pgcd.Gcd(a, polyOf(rowOf(a).scaled(big.NewInt(-6)))), rowOf(a).primitive())
}
