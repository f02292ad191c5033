package pdiv_test

import (
	"math/big"
	"testing"

	"orrery/api"
	"orrery/pdiv"
)

// checkPseudo tells whether Pseudo answers for a and b what it is to answer. There is only one q and one r with the degree that is asked for, so the equation is enough.
func checkPseudo(t *testing.T, a, b api.Poly) {
	t.Helper()
	q, r, k, err := pdiv.Pseudo(a, b)
	x, y := rowOf(a), rowOf(b)
	if len(y) == 0 {
		if err != api.ErrZero || len(q) != 0 || len(r) != 0 || k != 0 {
			t.Fatal(a, b, q, r, k, err)
		}
		return
	}
	if err != api.OK || k != max(0, x.deg()-y.deg()+1) || rowOf(r).deg() >= y.deg() {
		t.Fatal(a, b, q, r, k, err)
	}
	power := new(big.Int).Exp(y[y.deg()], big.NewInt(int64(k)), nil)
	check(t, polyOf(rowOf(q).times(y).plus(rowOf(r))), x.scaled(power), a, b, q, r)
	check(t, q, rowOf(q), a, b)
	check(t, r, rowOf(r), a, b)
}

func TestPseudo(t *testing.T) {
	pairs(func(a, b api.Poly) { checkPseudo(t, a, b) })
	for _, c := range []struct {
		a, b, q, r api.Poly
		k          int
	}{
		{raw(0, 0, 1), raw(-1, 2), raw(1, 2), raw(1), 2},
		{raw(0, 0, 1), raw(1, -2), raw(-1, -2), raw(1), 2},
		{raw(0, 0, 4), raw(-2, 2), raw(8, 8), raw(16), 2},
		{raw(1, 2, 3), raw(2), raw(4, 8, 12), nil, 3},
		{raw(1, 2, 3), raw(-1), raw(1, 2, 3), nil, 3},
		{raw(5), raw(-3), raw(5), nil, 1},
		{raw(5, 1), raw(0, 0, 3), nil, raw(5, 1), 0},
		{raw(5), raw(0, 3), nil, raw(5), 0},
		{raw(0, 1), raw(0, 3), raw(1), nil, 1},
		{nil, raw(7), nil, nil, 0},
		{nil, raw(0, 7), nil, nil, 0},
		{raw(0, 0, 0, 0, 2), raw(0, 3, 3), raw(18, -18, 18), raw(0, -54), 3},
		// The degree falls by more than 1 in a step: the powers of the leading coefficient are not left out.
		{raw(3, 0, 0, 0, 4), raw(0, 0, 2), raw(0, 0, 16), raw(24), 3},
		{raw(1, 0, 0, 1), raw(0, 1, 0, 1, 0), raw(1), raw(1, -1), 1},
	} {
		q, r, k, err := pdiv.Pseudo(c.a, c.b)
		if err != api.OK || k != c.k || !same(q, c.q) || !same(r, c.r) {
			t.Error(c, q, r, k, err)
		}
	}
}

// TestPseudoLimits has the longest polynomials that the limits let be, with every kind of quotient.
func TestPseudoLimits(t *testing.T) {
	d := draw(4)
	a := d.long(api.MaxTerms, api.MaxLimbs)
	for _, terms := range []int{1, 2, 40, 63, 64} {
		checkPseudo(t, a, d.long(terms, api.MaxLimbs))
	}
	checkPseudo(t, d.long(40, api.MaxLimbs), a)
}

// checkExact tells whether Exact answers for a and b what it is to answer.
func checkExact(t *testing.T, a, b api.Poly) {
	t.Helper()
	got, err := pdiv.Exact(a, b)
	x, y := rowOf(a), rowOf(b)
	if len(y) == 0 {
		if err != api.ErrZero || len(got) != 0 {
			t.Fatal(a, b, got, err)
		}
		return
	}
	q, rest := x.divide(y)
	want, whole := integers(q)
	if left, ok := integers(rest); !whole || !ok || len(left) > 0 {
		if err != api.ErrExact || len(got) != 0 {
			t.Fatal(a, b, got, err)
		}
		return
	}
	if err != api.OK {
		t.Fatal(a, b, err)
	}
	check(t, got, want, a, b)
}

func TestExact(t *testing.T) {
	pairs(func(a, b api.Poly) { checkExact(t, a, b) })
	for _, c := range []struct {
		a, b, want api.Poly
		err        api.Errno
	}{
		{raw(-1, 0, 1), raw(1, 1), raw(-1, 1), api.OK},
		{raw(-1, 0, 1), raw(-1, -1), raw(1, -1), api.OK},
		{raw(-1, 0, 1), raw(2, 1), nil, api.ErrExact},
		{raw(2, 4), raw(2), raw(1, 2), api.OK},
		{raw(2, 4), raw(4), nil, api.ErrExact},
		{raw(1, 2), raw(2, 4), nil, api.ErrExact},
		{raw(3, 2), raw(2), nil, api.ErrExact},
		{raw(2, 4), raw(1, 2), raw(2), api.OK},
		{raw(0, 0, 6, 0), raw(0, 0, -3), raw(-2), api.OK},
		{raw(5), raw(0, 1), nil, api.ErrExact},
		{raw(1, 0, 1), raw(0, 1), nil, api.ErrExact},
		{nil, raw(3, 1), nil, api.OK},
		{nil, raw(-3), nil, api.OK},
		{raw(1, 1), nil, nil, api.ErrZero},
		{nil, nil, nil, api.ErrZero},
	} {
		got, err := pdiv.Exact(c.a, c.b)
		if err != c.err || !same(got, c.want) {
			t.Error(c, got, err)
		}
	}
}

// TestExactOfProducts has divisions that come out even, and their neighbours in one coefficient, most of which do not.
func TestExactOfProducts(t *testing.T) {
	d := draw(5)
	for i := range 1000 {
		q, b := rowOf(d.poly(1+i%8, 1+i%5)), rowOf(d.poly(1+i%6, 1+i%4))
		if len(b) == 0 {
			continue
		}
		a := q.times(b)
		got, err := pdiv.Exact(polyOf(a), polyOf(b))
		if err != api.OK {
			t.Fatal(q, b, err)
		}
		check(t, got, q, b)
		near := append(a.plus(nil), zeros(1)...)
		at := near[d.next(len(near))]
		at.Add(at, big.NewInt(1))
		checkExact(t, polyOf(near), polyOf(b))
	}
	q, b := rowOf(d.long(32, 31)), rowOf(d.long(33, 32))
	got, err := pdiv.Exact(polyOf(q.times(b)), polyOf(b))
	if err != api.OK {
		t.Fatal(err)
	}
	check(t, got, q)
}

// checkRest tells whether Rest answers for a and b what it is to answer.
func checkRest(t *testing.T, a, b api.Poly) {
	t.Helper()
	got, err := pdiv.Rest(a, b)
	x, y := rowOf(a), rowOf(b)
	if len(y) == 0 {
		if err != api.ErrZero || len(got) != 0 {
			t.Fatal(a, b, got, err)
		}
		return
	}
	if err != api.OK {
		t.Fatal(a, b, err)
	}
	_, rest := x.divide(y)
	check(t, got, raised(rest), a, b)
}

func TestRest(t *testing.T) {
	pairs(func(a, b api.Poly) { checkRest(t, a, b) })
	for _, c := range []struct{ a, b, want api.Poly }{
		{raw(0, 0, 1), raw(-1, 2), raw(1)},
		{raw(0, 0, -1), raw(-1, 2), raw(-1)},
		// The sign is the remainder's, whatever the signs of the leading coefficients and the number of steps.
		{raw(0, 0, 1), raw(1, -2), raw(1)},
		{raw(0, 0, -1), raw(1, -2), raw(-1)},
		{raw(0, 1), raw(-1, 2), raw(1)},
		{raw(0, 1), raw(1, -2), raw(1)},
		{raw(0, -1), raw(1, -2), raw(-1)},
		{raw(0, 0, 0, 1), raw(1, -2), raw(1)},
		{raw(0, 0, 0, 1), raw(1, 2), raw(-1)},
		{raw(0, 0, 0, 1), raw(-1, -2), raw(-1)},
		{raw(6, -4), raw(0, 0, 1), raw(3, -2)},
		{raw(6, -4), raw(0, 0, -5), raw(3, -2)},
		{raw(-8), raw(0, 1), raw(-1)},
		{raw(-1, 0, 1), raw(2, 2), nil},
		{raw(3, 1), raw(-7), nil},
		{nil, raw(1, 1), nil},
		{raw(1, 3, 0, 2), raw(1, 0, 4), raw(2, 5)},
	} {
		if got, err := pdiv.Rest(c.a, c.b); err != api.OK || !same(got, c.want) {
			t.Error(c, got, err)
		}
	}
}

// TestRestFactors: a factor of b changes nothing, and one of a only the sign.
func TestRestFactors(t *testing.T) {
	d := draw(6)
	for i := range 500 {
		a, b, c := rowOf(d.poly(2+i%7, 1+i%4)), rowOf(d.poly(1+i%6, 1+i%3)), bigOf(d.number(3))
		if len(b) == 0 || c.Sign() == 0 {
			continue
		}
		want, _ := pdiv.Rest(polyOf(a), polyOf(b))
		got, err := pdiv.Rest(polyOf(a), polyOf(b.scaled(c)))
		if err != api.OK || !same(got, want) {
			t.Fatal(a, b, c, got, want, err)
		}
		got, err = pdiv.Rest(polyOf(a.scaled(c)), polyOf(b))
		if err != api.OK {
			t.Fatal(a, b, c, err)
		}
		check(t, got, rowOf(want).scaled(big.NewInt(int64(c.Sign()))), a, b, c)
	}
}

// TestRestLimits has the longest polynomials that the limits let be. What Rest answers is held against the remainder that Pseudo leaves, which is b's leading coefficient to the power of k times the right one.
func TestRestLimits(t *testing.T) {
	d := draw(7)
	a := d.long(api.MaxTerms, api.MaxLimbs)
	for _, terms := range []int{1, 2, 40, 63, 64} {
		b := d.long(terms, api.MaxLimbs)
		got, err := pdiv.Rest(a, b)
		if err != api.OK {
			t.Fatal(terms, err)
		}
		_, r, k, _ := pdiv.Pseudo(a, b)
		want := rowOf(r)
		by := want.content()
		if b[terms-1].Neg && k%2 == 1 {
			by.Neg(by)
		}
		for i := range want {
			want[i].Quo(want[i], by)
		}
		check(t, got, want, terms)
	}
}

// TestZero: ErrZero comes whatever is divided, in whatever form the 0 is.
func TestZero(t *testing.T) {
	for _, a := range edges() {
		for _, zero := range noPolys() {
			checkPseudo(t, a, zero)
			checkExact(t, a, zero)
			checkRest(t, a, zero)
		}
	}
}
