package pred_test

import (
	"testing"

	"orrery/api"
	"orrery/curve"
	"orrery/pred"
)

// TestWrongTimes: for a time that is not Valid nothing is promised but that the calls end.
func TestWrongTimes(t *testing.T) {
	polys := append(noPolys(), raw(5), raw(1, 0, 1), raw(-2, 0, 1), raw(1, -2, 1), raw(0, -6, 11, -6, 1, 0))
	ends := []api.Rat{{}, fraction(1, 0), fraction(-9, 1), fraction(9, -1), fraction(2, 4), fraction(1<<40, 3)}
	curves := []api.Curve{{}, curve.Still(1, 1), curve.Of(raw(0, 1), raw(-2, 0, 1)), curve.Of(raw(1, -2, 1), nil)}
	for _, p := range polys {
		for _, lo := range ends {
			for _, hi := range ends {
				at := api.Alg{P: p, Lo: lo, Hi: hi}
				for i, a := range curves {
					for _, b := range curves {
						pred.Before(api.Point{Curve: a, Id: i}, api.Point{Curve: b, Id: 2}, at)
						pred.Beats(api.Point{Curve: a, Id: i}, api.Point{Curve: b, Id: 2}, at)
					}
				}
			}
		}
	}
}

// TestZeroD: every form of a 0 as the D counts as 1.
func TestZeroD(t *testing.T) {
	x, y := raw(1, 2), raw(0, 0, -4)
	want := wantPolys(curve.Of(x, y), curve.Of(y, x), curve.Still(1, 2), curve.Of(x, x))
	for _, d := range noughts() {
		a, b, e := api.Curve{X: x, Y: y, D: d}, api.Curve{X: y, Y: x, D: d}, api.Curve{X: x, Y: x, D: d}
		if got := polys(a, b, api.Curve{X: raw(1), Y: raw(2), D: d}, e); !samePolys(got, want) {
			t.Error(d, got, want)
		}
		if !pred.Equal(a, curve.Of(x, y)) || pred.Equal(a, curve.Of(y, x)) {
			t.Error(d)
		}
	}
}
