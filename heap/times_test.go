package heap_test

import (
	"math/big"

	"orrery/alg"
	"orrery/api"
	"orrery/poly"
)

// place is where a number x lies on the line: x times its absolute value. It is rational for square roots too, and rises with x.
type place = *big.Rat

// number is a Valid number, and where it is.
type number struct {
	a  api.Alg
	at place
}

// rational is the number n / d itself.
func rational(n, d int) number {
	x := big.NewRat(int64(n), int64(d))
	return number{alg.Of(fraction(n, d)), new(big.Rat).Mul(x, new(big.Rat).Abs(x))}
}

// numbers are rational numbers and square roots, each of them several times: in wide and in short intervals, as roots of several polynomials.
func numbers() []number {
	var out []number
	for n := -5; n <= 5; n++ {
		x := rational(n, 2)
		out = append(out, x, number{api.Alg{P: poly.Of(-n, 2), Lo: fraction(n-1, 2), Hi: fraction(n+3, 2)}, x.at})
	}
	for n := 1; n <= 4; n++ {
		x, below := big.NewRat(int64(n), 1), big.NewRat(int64(-n), 1)
		out = append(out, number{root(n), x}, number{alg.Refine(root(n), 70), x})
		out = append(out, number{api.Alg{P: poly.Of(0, 7*n, 0, -7), Lo: fraction(1, 3), Hi: fraction(5, 2)}, x})
		out = append(out, number{api.Alg{P: poly.Of(n, 0, -1), Lo: fraction(-9, 1), Hi: fraction(0, 1)}, below})
	}
	// Just above and just below 1, and just above the square root of 2.
	const much = 1 << 20
	out = append(out, rational(much+1, much), rational(much, much+1))
	above := api.Alg{P: poly.Of(-2*much-2, 0, much), Lo: fraction(1, 1), Hi: fraction(2, 1)}
	return append(out, number{above, big.NewRat(2*much+2, much)})
}

// at is the time n.
func at(n int) api.Alg {
	return alg.Of(fraction(n, 1))
}

// root is the square root of n, which is from 1 to 4.
func root(n int) api.Alg {
	return api.Alg{P: poly.Of(-n, 0, 1), Lo: fraction(1, 2), Hi: fraction(2, 1)}
}

// event is an event of this kind and these names.
func event(at api.Alg, kind int, ids ...int) api.Event {
	e := api.Event{Tag: api.Tag{Kind: kind}, At: at}
	copy(e.Ids[:], ids)
	return e
}
