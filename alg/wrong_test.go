package alg_test

import (
	"math"
	"testing"

	"orrery/alg"
	"orrery/api"
)

// wrongs are numbers of which nearly all are not Valid: polynomials that are 0, constant, not squarefree, without roots and with several of them, between ends of all kinds.
func wrongs() []api.Alg {
	var out []api.Alg
	for _, p := range []api.Poly{
		nil, noughts(), raw(5), raw(-5, 0), raw(1, 0, 1), raw(-1, 3), raw(1, -6, 9), raw(-1, 9, -27, 27), raw(0, 0, 1), raw(0, 0, 0, -1), raw(0, -6, 11, -6, 1),
		raw(-2, 0, 1), raw(4, 0, -4, 0, 1), raw(-2, 6, 1, -3), raw(2, -11, 17, -6), raw(0, 2, -1, 0, 1, -3, 0, 0),
	} {
		for _, ends := range [][2]api.Rat{
			{{}, {}}, {fraction(0, 1), fraction(1, 1)}, {fraction(-1, 1), fraction(1, 1)}, {fraction(-9, 1), fraction(9, 1)}, {fraction(9, 1), fraction(-9, 1)}, {fraction(1, 3), fraction(4, 1)},
			{fraction(0, 1), fraction(1, 3)}, {fraction(1, 2), fraction(1, 2)}, {fraction(1, 3), fraction(1, 3)}, {fraction(1, 1), fraction(0, 0)}, {fraction(-1, -7), fraction(-5, -2)}, {fraction(2, 1), fraction(3, 1)},
		} {
			out = append(out, api.Alg{P: p, Lo: ends[0], Hi: ends[1]})
		}
	}
	return out
}

// TestWrong: whatever the arguments are, each call ends, and a result that says that there is nothing has nothing beside it.
func TestWrong(t *testing.T) {
	l := wrongs()
	for _, a := range l {
		for _, n := range []int{math.MinInt, 0, 5, math.MaxInt} {
			alg.Refine(a, n)
		}
		if got, ok := alg.Rational(a); !ok && !sameRat(got, api.Rat{}) {
			t.Error(a, got)
		}
		for _, at := range []api.Rat{{}, fraction(1, 3), fraction(-7, 0), fraction(5, -2)} {
			alg.CmpRat(a, at)
		}
		for _, p := range []api.Poly{nil, raw(3), raw(-1, 3), raw(1, -6, 9), raw(-1, 9, -27, 27), raw(0, 1), raw(-2, 0, 1), raw(0, -6, 11, -6, 1)} {
			alg.Sign(p, a)
		}
		for _, b := range l {
			alg.Cmp(a, b)
			alg.Sign(b.P, a)
			if got, err := alg.Between(a, b); err != api.OK && (err != api.ErrArg || !sameRat(got, api.Rat{})) {
				t.Error(a, b, got, err)
			}
		}
	}
	if got := alg.Sort(l...); len(got) != len(l) {
		t.Error(len(got))
	}
	alg.Least(l...)
}
