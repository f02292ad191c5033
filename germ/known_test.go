package germ_test

import (
	"math/big"
	"slices"
	"testing"

	"orrery/api"
	"orrery/isolate"
)

// place is where a number x lies on the line: x times its absolute value. It is rational for square roots too, and rises with x.
type place = *big.Rat

// placeOf is the place of a rational number.
func placeOf(x *big.Rat) place {
	return new(big.Rat).Mul(x, new(big.Rat).Abs(x))
}

// signAt is the sign of p at a place: with x for the number there, p is e(x^2) + x o(x^2).
func signAt(p row, r place) int {
	var e, o row
	for i, c := range p {
		if i%2 == 0 {
			e = append(e, c)
		} else {
			o = append(o, c)
		}
	}
	square := new(big.Rat).Abs(r)
	even, odd := e.at(square), o.at(square)
	// The sign of e + x o is that of the place of e plus the place of x o, for the function is a rising one of both.
	part := new(big.Rat).Mul(placeOf(odd), r)
	return new(big.Rat).Add(placeOf(even), part).Sign()
}

// root is a real root, and how many times it is one.
type root struct {
	at    place
	times int
}

// known is a polynomial with its real roots, rising.
type known struct {
	p     row
	roots []root
}

// rational is the polynomial with this root.
func rational(x *big.Rat) known {
	return known{linear(x), []root{{placeOf(x), 1}}}
}

// roots is d t^2 - n for n and d above 0: two roots.
func roots(n, d int64) known {
	x := big.NewRat(n, d)
	return known{small(-n, 0, d), []root{{new(big.Rat).Neg(x), 1}, {x, 1}}}
}

// and is the product.
func (k known) and(l known) known {
	out := known{k.p.times(l.p), slices.Clone(k.roots)}
	for _, r := range l.roots {
		i := slices.IndexFunc(out.roots, func(s root) bool { return s.at.Cmp(r.at) == 0 })
		if i < 0 {
			out.roots = append(out.roots, r)
		} else {
			out.roots[i].times += r.times
		}
	}
	slices.SortFunc(out.roots, func(r, s root) int { return r.at.Cmp(s.at) })
	return out
}

// after is the sign of the polynomial just after a place: above that, it turns at every root of odd multiplicity, and in the end it is that of the leading coefficient.
func (k known) after(at place) int {
	if len(k.p) == 0 {
		return 0
	}
	s := k.p[len(k.p)-1].Sign()
	for _, r := range k.above(at) {
		if r.times%2 == 1 {
			s = -s
		}
	}
	return s
}

// above are the roots above a place.
func (k known) above(at place) []root {
	i := slices.IndexFunc(k.roots, func(r root) bool { return r.at.Cmp(at) > 0 })
	if i < 0 {
		return nil
	}
	return k.roots[i:]
}

// turning are the places of those roots that have an odd multiplicity.
func turning(l []root) []place {
	var out []place
	for _, r := range l {
		if r.times%2 == 1 {
			out = append(out, r.at)
		}
	}
	return out
}

// knowns are polynomials with known roots, many of them multiple ones, some with a constant factor, a leading coefficient below 0 or factors without real roots.
func knowns() []known {
	zero, one := rational(new(big.Rat)), rational(big.NewRat(1, 1))
	out := []known{{}, {p: small(1)}, {p: small(-5)}, {p: small(1, 0, 1)}, {p: small(-3, 2, -1)}, zero, zero.and(zero), zero.and(zero).and(zero), roots(2, 1), roots(2, 1).and(roots(2, 1)), one.and(one).and(roots(1, 1)), zero.and(roots(3, 2)).and(zero)}
	d := draw(3)
	for range 120 {
		k := known{p: small([]int64{1, -1, 4, -6}[d.next(4)])}
		for range 1 + d.next(4) {
			f := rational(big.NewRat(int64(d.next(9)-4), int64(1+d.next(3))))
			switch d.next(5) {
			case 0, 1:
				f = roots(int64(1+d.next(4)), int64(1+d.next(2)))
			case 2:
				f = known{p: []row{small(1, 0, 1), small(-3, 2, -1), small(2, 0, 0, 0, 1)}[d.next(3)]}
			}
			for range 1 + d.next(4) {
				k = k.and(f)
			}
		}
		out = append(out, k)
	}
	return out
}

// times are times at, between and far from the roots of knowns, rising.
func times() []*big.Rat {
	out := []*big.Rat{big.NewRat(-1<<40, 3), big.NewRat(1<<40, 3)}
	for n := int64(-30); n <= 30; n++ {
		out = append(out, big.NewRat(n, 6))
	}
	for _, x := range [][2]int64{{7, 5}, {10, 7}, {99, 70}, {140, 99}, {1, 1 << 40}} {
		out = append(out, big.NewRat(x[0], x[1]), big.NewRat(-x[0], x[1]))
	}
	slices.SortFunc(out, (*big.Rat).Cmp)
	return out
}

// number is a Valid number, and where it is.
type number struct {
	a  api.Alg
	at place
}

// number is the root above lo and at most hi as a number, if there is just one and all roots are simple ones; where lo and hi are equal, it is they themselves.
func (k known) number(lo, hi *big.Rat) (number, bool) {
	var l []place
	for _, r := range k.roots {
		at, from := r.at.Cmp(placeOf(hi)), r.at.Cmp(placeOf(lo))
		if from > 0 && at <= 0 || from == 0 && at == 0 {
			l = append(l, r.at)
		}
		if r.times > 1 {
			return number{}, false
		}
	}
	if len(l) != 1 {
		return number{}, false
	}
	return number{api.Alg{P: polyOf(k.p), Lo: ratOf(lo), Hi: ratOf(hi)}, l[0]}, true
}

// numbers are about each-th of the numbers that polynomials with simple roots have between two times: in wide and in short intervals, with another root at Lo, with the number at Hi, and the numbers themselves.
func numbers(each int) []number {
	var polys []known
	for n := int64(-9); n <= 9; n++ {
		x := rational(big.NewRat(n, 2))
		polys = append(polys, x, rational(big.NewRat(n, 3)).and(rational(big.NewRat(n+1, 2))).and(roots(2, 1)))
		if n > 0 {
			k := roots(n, 1+n%2)
			polys = append(polys, k, k.and(x).and(known{p: small(-1, 0, 0, 0, -1)}), k.and(roots(n+3, 1)).and(rational(new(big.Rat))))
		}
	}
	var out []number
	d := draw(4)
	l := times()
	for _, k := range polys {
		for i, lo := range l {
			for _, hi := range l[i:] {
				if x, ok := k.number(lo, hi); ok && d.next(each) == 0 {
					out = append(out, x)
				}
			}
		}
	}
	return out
}

// checkNumber tells whether a is Valid, in the form of a result, and the number at r.
func checkNumber(t *testing.T, a api.Alg, r place) {
	t.Helper()
	checkResult(t, a)
	lo, hi := placeOf(bigRat(a.Lo)), placeOf(bigRat(a.Hi))
	if signAt(rowOf(a.P), r) != 0 || r.Cmp(hi) > 0 || r.Cmp(lo) < 0 || r.Cmp(lo) == 0 && lo.Cmp(hi) < 0 {
		t.Fatal(a, r)
	}
}

// checkResult tells whether a is Valid and in the form of a result.
func checkResult(t *testing.T, a api.Alg) {
	t.Helper()
	if !same(a.P, polyOf(rowOf(a.P))) || !sameRat(a.Lo, ratOf(bigRat(a.Lo))) || !sameRat(a.Hi, ratOf(bigRat(a.Hi))) {
		t.Fatal(a, "not normal")
	}
	if !isolate.Valid(a) {
		t.Fatal(a, "not Valid")
	}
}

// checkNext tells whether a and ok are the least one of the places, which rise.
func checkNext(t *testing.T, a api.Alg, ok bool, l []place) {
	t.Helper()
	if ok != (len(l) > 0) {
		t.Fatal(a, ok, l)
	}
	if !ok {
		checkNone(t, a)
		return
	}
	checkNumber(t, a, l[0])
}

// checkNone tells whether a is the zero value.
func checkNone(t *testing.T, a api.Alg) {
	t.Helper()
	if !sameAlg(a, api.Alg{}) {
		t.Fatal(a)
	}
}
