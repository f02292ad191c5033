package germ_test

import (
	"testing"

	"orrery/api"
	"orrery/germ"
)

// polys are of all kinds: 0, constant, not squarefree, without real roots and with several of them.
func polys() []api.Poly {
	return []api.Poly{
		nil, noughts(), raw(5), raw(-5, 0), raw(1, 0, 1), raw(-1, 3), raw(1, -6, 9), raw(-1, 9, -27, 27), raw(0, 0, 1), raw(0, 0, 0, -1), raw(0, -6, 11, -6, 1),
		raw(-2, 0, 1), raw(4, 0, -4, 0, 1), raw(-2, 6, 1, -3), raw(2, -11, 17, -6), raw(0, 2, -1, 0, 1, -3, 0, 0),
	}
}

// wrongs are numbers between ends of all kinds, of which nearly all are not Valid.
func wrongs() []api.Alg {
	var out []api.Alg
	for _, p := range polys() {
		for _, ends := range [][2]api.Rat{
			{{}, {}}, {fraction(0, 1), fraction(1, 1)}, {fraction(-1, 1), fraction(1, 1)}, {fraction(-9, 1), fraction(9, 1)}, {fraction(9, 1), fraction(-9, 1)}, {fraction(1, 3), fraction(4, 1)},
			{fraction(0, 1), fraction(1, 3)}, {fraction(1, 2), fraction(1, 2)}, {fraction(1, 3), fraction(1, 3)}, {fraction(1, 1), fraction(0, 0)}, {fraction(-1, -7), fraction(-5, -2)}, {fraction(2, 1), fraction(3, 1)},
		} {
			out = append(out, api.Alg{P: p, Lo: ends[0], Hi: ends[1]})
		}
	}
	return out
}

// TestWrong: whatever the arguments are, each call ends, a result that says that there is nothing has nothing beside it, and only the polynomial 0 has the sign 0.
func TestWrong(t *testing.T) {
	for _, a := range wrongs() {
		for _, p := range polys() {
			if got := germ.At(p, a); (got == 0) != (len(rowOf(p)) == 0) {
				t.Error(a, p, got)
			}
			got, ok := germ.Next(p, a)
			checkOne(t, got, ok)
			for _, l := range [][]api.Poly{{}, {p}, {p, a.P, nil}} {
				got, ok := germ.First(a, l...)
				checkOne(t, got, ok)
			}
		}
	}
}

// checkOne tells whether a is a number, or the zero value where ok is false.
func checkOne(t *testing.T, a api.Alg, ok bool) {
	t.Helper()
	if ok {
		checkResult(t, a)
	} else {
		checkNone(t, a)
	}
}
