package pgcd_test

import (
	"math/big"
	"testing"

	"orrery/api"
	"orrery/pgcd"
)

// checkFactors tells whether l are the factors of a. There is only one list with what is asked for here.
func checkFactors(t *testing.T, a api.Poly, l []api.Poly) {
	t.Helper()
	if rowOf(a).deg() <= 0 {
		if len(l) > 0 {
			t.Fatal(a, l)
		}
		return
	}
	if len(l) == 0 || len(l[len(l)-1]) < 2 {
		t.Fatal(a, l)
	}
	one, all := row{big.NewInt(1)}, row{big.NewInt(1)}
	for i, p := range l {
		f := rowOf(p)
		check(t, p, f.primitive(), a, l)
		check(t, polyOf(f.gcd(f.derived())), one, a, l, "not squarefree")
		for _, q := range l[:i] {
			check(t, polyOf(f.gcd(rowOf(q))), one, a, l, "not coprime")
		}
		all = all.times(f.power(i + 1))
	}
	check(t, polyOf(all), rowOf(a).primitive(), a, l)
}

// checkProducts tells whether Square and Odd are the products that are asked for of a's factors l.
func checkProducts(t *testing.T, a api.Poly, l []api.Poly) {
	t.Helper()
	square, odd := row{big.NewInt(1)}, row{big.NewInt(1)}
	if len(rowOf(a)) == 0 {
		square, odd = nil, nil
	}
	for i, f := range l {
		square = square.times(rowOf(f))
		if i%2 == 0 {
			odd = odd.times(rowOf(f))
		}
	}
	check(t, pgcd.Square(a), square, a, "Square")
	check(t, pgcd.Odd(a), odd, a, "Odd")
}

func TestFactors(t *testing.T) {
	singles(func(a api.Poly) {
		l := pgcd.Factors(a)
		checkFactors(t, a, l)
		checkProducts(t, a, l)
	})
	one := raw(1)
	for _, c := range []struct {
		a           api.Poly
		want        []api.Poly
		square, odd api.Poly
	}{
		// (t - 1)^3 (t + 2)
		{raw(-2, 5, -3, -1, 1), []api.Poly{raw(2, 1), one, raw(-1, 1)}, raw(-2, 1, 1), raw(-2, 1, 1)},
		{raw(0, 0, 1), []api.Poly{one, raw(0, 1)}, raw(0, 1), one},
		{raw(0, 0, -12), []api.Poly{one, raw(0, 1)}, raw(0, 1), one},
		{raw(0, 0, 0, 4), []api.Poly{one, one, raw(0, 1)}, raw(0, 1), raw(0, 1)},
		{raw(2, -4), []api.Poly{raw(-1, 2)}, raw(-1, 2), raw(-1, 2)},
		{raw(-4, 0, 2), []api.Poly{raw(-2, 0, 1)}, raw(-2, 0, 1), raw(-2, 0, 1)},
		// (t^2 - 2)^2 (2 t + 1)
		{raw(4, 8, -4, -8, 1, 2), []api.Poly{raw(1, 2), raw(-2, 0, 1)}, raw(-2, -4, 1, 2), raw(1, 2)},
		{raw(5), nil, one, one}, {raw(-1), nil, one, one}, {raw(-8, 0, 0), nil, one, one}, {raw(0, 0), nil, nil, nil}, {nil, nil, nil, nil},
	} {
		l, square, odd := pgcd.Factors(c.a), pgcd.Square(c.a), pgcd.Odd(c.a)
		if !equal(l, c.want) || !same(square, c.square) || !same(odd, c.odd) {
			t.Error(c, l, square, odd)
		}
	}
}

// TestZero: every form of 0 has no factors, and 0 as its squarefree part.
func TestZero(t *testing.T) {
	for _, a := range noPolys() {
		if l := pgcd.Factors(a); len(l) > 0 {
			t.Error(a, l)
		}
		checkProducts(t, a, nil)
	}
}

// TestFactorsOfPowers has each power of one polynomial, and the factors in every order.
func TestFactorsOfPowers(t *testing.T) {
	d := draw(5)
	for n := 1; n < api.MaxTerms; n++ {
		a := polyOf(row{big.NewInt(int64(n)), big.NewInt(-2)}.power(n))
		l := pgcd.Factors(a)
		if len(l) != n {
			t.Fatal(n, l)
		}
		checkFactors(t, a, l)
		checkProducts(t, a, l)
	}
	for range 200 {
		all := row{big.NewInt(int64(1 + d.next(5)))}
		for k := range 1 + d.next(4) {
			// The roots are k and k + 1 over 7: neighbours share one.
			f := row{big.NewInt(int64(k * (k + 1))), big.NewInt(int64(-7 * (2*k + 1))), big.NewInt(49)}
			all = all.times(f.power(d.next(5)))
		}
		l := pgcd.Factors(polyOf(all))
		checkFactors(t, polyOf(all), l)
		checkProducts(t, polyOf(all), l)
	}
}

// TestFactorsLimits has long polynomials with known factors, and one of the longest without any.
func TestFactorsLimits(t *testing.T) {
	d := draw(6)
	one := row{big.NewInt(1)}
	for _, size := range []int{1, 8, 20} {
		f := []row{rowOf(d.long(9, size)), rowOf(d.long(8, size)), rowOf(d.long(6, size))}
		all := one
		for i, r := range f {
			all = all.times(r.power(i + 1))
		}
		l := pgcd.Factors(polyOf(all))
		if len(l) != len(f) {
			t.Fatal(size, l)
		}
		for i, r := range f {
			check(t, l[i], r.primitive(), size, i)
		}
		checkProducts(t, polyOf(all), l)
	}
	a := d.long(api.MaxTerms, api.MaxLimbs)
	l := pgcd.Factors(a)
	if len(l) != 1 {
		t.Fatal(l)
	}
	check(t, l[0], rowOf(a).primitive())
	checkProducts(t, a, l)
}
