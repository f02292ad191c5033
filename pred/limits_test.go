package pred_test

import (
	"testing"

	"orrery/alg"
	"orrery/api"
	"orrery/isolate"
	"orrery/pred"
)

// longCurve has the degree MaxDeg and numbers of size limbs.
func (d *draw) longCurve(size int) api.Curve {
	return api.Curve{X: d.long(1+d.next(api.MaxDeg+1), size), Y: d.long(api.MaxDeg+1, size), D: d.limbs(size)}
}

// TestLong has curves of degree MaxDeg with numbers of MaxLimbs limbs.
func TestLong(t *testing.T) {
	var d draw = 77
	for _, size := range []int{1, 4, api.MaxLimbs} {
		for range 4 {
			checkPolys(t, d.longCurve(size), d.longCurve(size), d.longCurve(size), d.longCurve(size))
		}
	}
}

// TestLongTimes has such curves, and times that are roots of long polynomials.
func TestLongTimes(t *testing.T) {
	var d draw = 5
	roots, _ := isolate.Roots(d.long(3, api.MaxLimbs))
	more, _ := isolate.Roots(d.long(2, api.MaxLimbs))
	more = append(append(more, roots...), alg.Of(api.Rat{Int: d.limbs(api.MaxLimbs), D: d.limbs(api.MaxLimbs)}))
	for _, at := range more {
		a, b := api.Point{Curve: d.longCurve(api.MaxLimbs), Id: 1}, api.Point{Curve: d.longCurve(api.MaxLimbs), Id: 2}
		if pred.Before(a, b, at) == pred.Before(b, a, at) || pred.Beats(a, b, at) == pred.Beats(b, a, at) {
			t.Error(a, b, at)
		}
		p := pred.Right(a.Curve, b.Curve)
		if pred.Before(a, b, at) != (alg.Sign(p, at) > 0) {
			t.Error(a, b, at)
		}
		// At a root of it, what is just after that counts.
		l, _ := isolate.Roots(p)
		for i, x := range l {
			rising := (len(l)-i)%2 == 1
			if p[p.Deg()].Neg {
				rising = !rising
			}
			if pred.Before(a, b, x) != rising || pred.Before(b, a, x) == rising {
				t.Error(a, b, x)
			}
		}
	}
}

// TestBeyond: curves of a higher degree are no promise, but each call ends.
func TestBeyond(t *testing.T) {
	var d draw = 15
	for _, n := range []int{api.MaxDeg + 2, 5, 16} {
		checkPolys(t, api.Curve{X: d.long(n, 2), Y: d.long(n, 1)}, api.Curve{X: d.long(n, 1)}, api.Curve{Y: d.long(n, 3), D: d.limbs(2)}, d.curve())
	}
}
