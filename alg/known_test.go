package alg_test

import (
	"math/big"
	"slices"

	"orrery/api"
)

// place is where a number x lies on the line: x times its absolute value. It is rational for square roots too, and rises with x.
type place = *big.Rat

// placeOf is the place of a rational number.
func placeOf(x *big.Rat) place {
	return new(big.Rat).Mul(x, new(big.Rat).Abs(x))
}

// rootOf is the rational number at a place, if there is one.
func rootOf(r place) (*big.Rat, bool) {
	n, d := new(big.Int).Sqrt(new(big.Int).Abs(r.Num())), new(big.Int).Sqrt(r.Denom())
	x := new(big.Rat).SetFrac(n, d)
	if r.Sign() < 0 {
		x.Neg(x)
	}
	return x, placeOf(x).Cmp(r) == 0
}

// signAt is the sign of p at a place: with x for the number there, p is e(x^2) + x o(x^2).
func signAt(p row, r place) int {
	var e, o row
	for i, c := range p {
		if i%2 == 0 {
			e = append(e, c)
		} else {
			o = append(o, c)
		}
	}
	square := new(big.Rat).Abs(r)
	even, odd := e.at(square), o.at(square)
	// The sign of e + x o is that of the place of e plus the place of x o, for the function is a rising one of both.
	part := new(big.Rat).Mul(placeOf(odd), r)
	return new(big.Rat).Add(placeOf(even), part).Sign()
}

// number is a Valid number, and where it is.
type number struct {
	a  api.Alg
	at place
}

// known is a squarefree polynomial with the places of its real roots, rising.
type known struct {
	p     row
	roots []place
}

// rational is the polynomial with this root.
func rational(n, d int64) known {
	x := big.NewRat(n, d)
	return known{linear(x), []place{placeOf(x)}}
}

// roots is d t^2 - n for n and d above 0: two roots.
func roots(n, d int64) known {
	x := big.NewRat(n, d)
	return known{small(-n, 0, d), []place{new(big.Rat).Neg(x), x}}
}

// and is the product, unless it would have a root twice.
func (k known) and(l known) known {
	for _, r := range l.roots {
		if slices.ContainsFunc(k.roots, func(s place) bool { return s.Cmp(r) == 0 }) {
			return k
		}
	}
	out := known{k.p.times(l.p), append(slices.Clone(k.roots), l.roots...)}
	slices.SortFunc(out.roots, place.Cmp)
	return out
}

// between are the roots above lo and at most hi; where these are equal, they themselves if they are a root.
func (k known) between(lo, hi *big.Rat) []place {
	var out []place
	for _, r := range k.roots {
		at, from := r.Cmp(placeOf(hi)), r.Cmp(placeOf(lo))
		if from > 0 && at <= 0 || from == 0 && at == 0 {
			out = append(out, r)
		}
	}
	return out
}

// number is the only root between lo and hi, if there is just one.
func (k known) number(lo, hi *big.Rat) (number, bool) {
	if l := k.between(lo, hi); len(l) == 1 {
		return number{api.Alg{P: polyOf(k.p), Lo: ratOf(lo), Hi: ratOf(hi)}, l[0]}, true
	}
	return number{}, false
}

// knowns are polynomials with known roots, some of them with a constant factor, a leading coefficient below 0 or factors without real roots.
func knowns() []known {
	out := []known{rational(0, 1), rational(3, 2), rational(-7, 3), roots(2, 1), roots(3, 2), roots(1, 1), roots(2, 1).and(rational(0, 1))}
	d := draw(3)
	for i := range 60 {
		k := known{p: small([]int64{1, -1, 4, -6}[d.next(4)])}
		if i%3 == 0 {
			k.p = k.p.times([]row{small(1, 0, 1), small(-3, 2, -1), small(2, 0, 0, 0, 1)}[d.next(3)])
		}
		for range 1 + i%5 {
			if d.next(3) == 0 {
				k = k.and(roots(int64(1+d.next(8)), int64(1+d.next(2))))
			} else {
				k = k.and(rational(int64(d.next(9)-4), int64(1+d.next(3))))
			}
		}
		out = append(out, k)
	}
	return out
}

// times are times at, between and far from the roots of knowns, rising.
func times() []*big.Rat {
	out := []*big.Rat{big.NewRat(-1<<40, 3), big.NewRat(1<<40, 3)}
	for n := int64(-30); n <= 30; n++ {
		out = append(out, big.NewRat(n, 6))
	}
	for _, x := range [][2]int64{{7, 5}, {10, 7}, {99, 70}, {140, 99}, {1, 1 << 40}} {
		out = append(out, big.NewRat(x[0], x[1]), big.NewRat(-x[0], x[1]))
	}
	slices.SortFunc(out, (*big.Rat).Cmp)
	return out
}

// numbers are about each-th of the numbers that the knowns have between two times: in wide and in short intervals, with another root at Lo, with the number at Hi, and the numbers themselves.
func numbers(each int) []number {
	var out []number
	d := draw(4)
	l := times()
	for _, k := range knowns() {
		for i, lo := range l {
			for _, hi := range l[i:] {
				if x, ok := k.number(lo, hi); ok && (d.next(each) == 0 || lo == hi && d.next(4) == 0) {
					out = append(out, x)
				}
			}
		}
	}
	return out
}

// has tells whether the number at r lies where a says that it does.
func has(a api.Alg, r place) bool {
	lo, hi := placeOf(bigRat(a.Lo)), placeOf(bigRat(a.Hi))
	return r.Cmp(hi) == 0 || lo.Cmp(r) < 0 && r.Cmp(hi) < 0
}
