package cert_test

import (
	"math/big"

	"orrery/alg"
	"orrery/api"
)

// place is where a number x lies on the line: x times its absolute value. It is rational for square roots too, and rises with x.
type place = *big.Rat

func placeOf(x *big.Rat) place {
	return new(big.Rat).Mul(x, new(big.Rat).Abs(x))
}

// signAt is the sign of p at a place: with x for the number there, p is e(x^2) + x o(x^2).
func signAt(p row, r place) int {
	var e, o row
	for i, c := range p {
		if i%2 == 0 {
			e = append(e, c)
		} else {
			o = append(o, c)
		}
	}
	square := new(big.Rat).Abs(r)
	even, odd := e.at(square), o.at(square)
	part := new(big.Rat).Mul(placeOf(odd), r)
	return new(big.Rat).Add(placeOf(even), part).Sign()
}

// after is the sign of p just after a place: that of the first derivative that is not 0 there.
func after(p row, r place) int {
	for ; len(p) > 0; p = p.derived() {
		if s := signAt(p, r); s != 0 {
			return s
		}
	}
	return 0
}

// number is a Valid number, and where it is.
type number struct {
	a  api.Alg
	at place
}

// numbers are rational numbers and square roots, in wide and in short intervals.
func numbers() []number {
	var out []number
	for n := int64(-8); n <= 8; n++ {
		x := big.NewRat(n, 2)
		out = append(out, number{alg.Of(ratOf(x)), placeOf(x)})
		out = append(out, number{api.Alg{P: raw(-n, 2), Lo: fraction(n-1, 2), Hi: fraction(n+3, 2)}, placeOf(x)})
	}
	for n := int64(1); n <= 6; n++ {
		x := big.NewRat(n, 1)
		out = append(out, number{api.Alg{P: raw(-n, 0, 1), Lo: fraction(0, 1), Hi: fraction(n, 1)}, x})
		out = append(out, number{api.Alg{P: raw(n, 0, -1), Lo: fraction(-9, 1), Hi: fraction(0, 1)}, new(big.Rat).Neg(x)})
	}
	two := alg.Refine(api.Alg{P: raw(0, 6, -2, -3, 1), Lo: fraction(1, 1), Hi: fraction(3, 2)}, 60)
	return append(out, number{two, big.NewRat(2, 1)}, number{alg.Of(fraction(1<<40, 3)), placeOf(big.NewRat(1<<40, 3))})
}
