package pred_test

import (
	"math"
	"math/big"
	"testing"

	"orrery/alg"
	"orrery/api"
	"orrery/curve"
	"orrery/pred"
)

// place is where a number x lies on the line: x times its absolute value. It is rational for square roots too, and rises with x.
type place = *big.Rat

func placeOf(x *big.Rat) place {
	return new(big.Rat).Mul(x, new(big.Rat).Abs(x))
}

// signAt is the sign of p at a place: with x for the number there, p is e(x^2) + x o(x^2).
func signAt(p row, r place) int {
	var e, o row
	for i, c := range p {
		if i%2 == 0 {
			e = append(e, c)
		} else {
			o = append(o, c)
		}
	}
	square := new(big.Rat).Abs(r)
	even, odd := e.at(square), o.at(square)
	part := new(big.Rat).Mul(placeOf(odd), r)
	return new(big.Rat).Add(placeOf(even), part).Sign()
}

// after is the sign of p just after a place: that of the first derivative that is not 0 there.
func after(p row, r place) int {
	for ; len(p) > 0; p = p.derived() {
		if s := signAt(p, r); s != 0 {
			return s
		}
	}
	return 0
}

// number is a Valid number, and where it is.
type number struct {
	a  api.Alg
	at place
}

// numbers are rational numbers and square roots, in wide and in short intervals.
func numbers() []number {
	var out []number
	for n := int64(-8); n <= 8; n++ {
		x := big.NewRat(n, 2)
		out = append(out, number{alg.Of(ratOf(x)), placeOf(x)})
		out = append(out, number{api.Alg{P: raw(-n, 2), Lo: fraction(n-1, 2), Hi: fraction(n+3, 2)}, placeOf(x)})
	}
	for n := int64(1); n <= 6; n++ {
		x := big.NewRat(n, 1)
		out = append(out, number{api.Alg{P: raw(-n, 0, 1), Lo: fraction(0, 1), Hi: fraction(n, 1)}, x})
		out = append(out, number{api.Alg{P: raw(n, 0, -1), Lo: fraction(-9, 1), Hi: fraction(0, 1)}, new(big.Rat).Neg(x)})
	}
	two := alg.Refine(api.Alg{P: raw(0, 6, -2, -3, 1), Lo: fraction(1, 1), Hi: fraction(3, 2)}, 60)
	return append(out, number{two, big.NewRat(2, 1)}, number{alg.Of(fraction(1<<40, 3)), placeOf(big.NewRat(1<<40, 3))})
}

// ahead is what two signs and two names make of two points.
func ahead(first, second int, less bool) bool {
	for _, s := range []int{first, second} {
		if s != 0 {
			return s > 0
		}
	}
	return less
}

func wantBefore(a, b api.Point, at place) bool {
	p, q := rowsOf(a.Curve), rowsOf(b.Curve)
	return ahead(after(wantRight(p, q), at), after(wantAbove(p, q), at), a.Id < b.Id)
}

func wantBeats(a, b api.Point, at place) bool {
	p, q := rowsOf(a.Curve), rowsOf(b.Curve)
	return ahead(after(wantAbove(q, p), at), after(wantRight(q, p), at), a.Id < b.Id)
}

func checkOrder(t *testing.T, a, b api.Point, x number) {
	t.Helper()
	if got, want := pred.Before(a, b, x.a), wantBefore(a, b, x.at); got != want {
		t.Error("Before", a, b, x, got, want)
	}
	if got, want := pred.Beats(a, b, x.a), wantBeats(a, b, x.at); got != want {
		t.Error("Beats", a, b, x, got, want)
	}
}

// coordinates are polynomials that meet, and touch, at many of the numbers.
func coordinates() []api.Poly {
	return []api.Poly{nil, raw(0, 1), raw(0, -1), raw(0, 0, 1), raw(2), raw(4, 0, -1), raw(1, -2, 1), raw(-1, 2), raw(-1, 1)}
}

func TestOrder(t *testing.T) {
	var d draw = 20
	l, times := coordinates(), numbers()
	pick := func() api.Poly { return l[d.next(len(l))] }
	for i := range 4000 {
		x, y := pick(), pick()
		a := api.Point{Curve: curve.Of(x, y), Id: d.next(3)}
		b := api.Point{Curve: curve.Of(pick(), pick()), Id: d.next(3)}
		switch i % 4 {
		case 0:
			b.Curve = curve.Of(x, pick())
		case 1:
			b.Curve = curve.Of(pick(), y)
		case 2:
			b.Curve = curve.Of(x, y)
		}
		b.Curve = formCurve(b.Curve, i)
		at := times[d.next(len(times))]
		checkOrder(t, a, b, at)
		checkOrder(t, b, a, at)
	}
}

func TestOrderDrawn(t *testing.T) {
	var d draw = 90
	times := numbers()
	for range 1500 {
		checkOrder(t, api.Point{Curve: d.curve(), Id: d.next(9)}, api.Point{Curve: d.curve(), Id: d.next(9)}, times[d.next(len(times))])
	}
}

// TestOrderCases has each of the ways in which one of two points comes first.
func TestOrderCases(t *testing.T) {
	zero := alg.Of(fraction(0, 1))
	two := api.Alg{P: raw(-2, 0, 1), Lo: fraction(1, 1), Hi: fraction(2, 1)}
	o := curve.Still(0, 0)
	for _, c := range []struct {
		a, b         api.Curve
		i, k         int
		at           api.Alg
		before, beat bool
	}{
		{o, curve.Still(1, -5), 9, 1, zero, true, true},
		{o, curve.Still(1, 5), 9, 1, zero, true, false},
		{o, curve.Still(-1, 5), 1, 9, zero, false, false},
		// One X: the lower one precedes, and the higher one wins.
		{o, curve.Still(0, 1), 9, 1, zero, true, false},
		{o, curve.Still(0, -1), 1, 9, zero, false, true},
		// One Y: the left one precedes, and the right one wins.
		{o, curve.Still(1, 0), 9, 1, zero, true, false},
		{o, curve.Still(-1, 0), 1, 9, zero, false, true},
		// One path: the names alone decide.
		{o, o, 1, 2, zero, true, true},
		{o, o, 2, 1, zero, false, false},
		{o, o, 2, 2, zero, false, false},
		{o, o, math.MinInt, math.MaxInt, zero, true, true},
		{o, o, math.MaxInt, math.MinInt, zero, false, false},
		// They meet at the time, and what is just after it counts.
		{o, curve.Of(raw(0, 1), raw(0, 1)), 9, 1, zero, true, false},
		{o, curve.Of(raw(0, -1), raw(0, -1)), 1, 9, zero, false, true},
		{o, curve.Of(raw(0, 0, 1), raw(0, 0, -1)), 9, 1, zero, true, true},
		{o, curve.Of(raw(-2, 0, 1), raw(2, 0, -1)), 9, 1, two, true, true},
		{o, curve.Of(raw(2, 0, -1), raw(-2, 0, 1)), 1, 9, two, false, false},
		// One X is for ever, that they meet at the time is not.
		{o, curve.Of(nil, raw(-2, 0, 1)), 9, 1, two, true, false},
		{o, curve.Of(raw(-2, 0, 1), nil), 9, 1, two, true, false},
		{o, curve.Of(raw(2, 0, -1), raw(7)), 1, 9, two, false, false},
	} {
		a, b := api.Point{Curve: c.a, Id: c.i}, api.Point{Curve: c.b, Id: c.k}
		if got := pred.Before(a, b, c.at); got != c.before {
			t.Error("Before", c, got)
		}
		if got := pred.Beats(a, b, c.at); got != c.beat {
			t.Error("Beats", c, got)
		}
	}
}

// TestOneOfTwo: of two points with two names exactly one precedes and one wins, and of three the order is one.
func TestOneOfTwo(t *testing.T) {
	var d draw = 50
	l, times := coordinates(), numbers()
	for range 700 {
		var points []api.Point
		for id := range 3 {
			points = append(points, api.Point{Curve: curve.Of(l[d.next(3)], l[d.next(4)]), Id: id})
		}
		at := times[d.next(len(times))].a
		for _, f := range []func(a, b api.Point, at api.Alg) bool{pred.Before, pred.Beats} {
			wins := map[int]int{}
			for _, a := range points {
				for _, b := range points {
					if f(a, b, at) {
						wins[a.Id]++
					}
				}
			}
			if wins[0]*wins[1]*wins[2] != 0 || wins[0]+wins[1]+wins[2] != 3 || len(wins) != 2 {
				t.Error(points, at, wins)
			}
		}
	}
}
