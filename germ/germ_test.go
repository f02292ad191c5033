package germ_test

import (
	"math/big"
	"slices"
	"testing"

	"orrery/alg"
	"orrery/api"
	"orrery/germ"
	"orrery/isolate"
)

func TestAfter(t *testing.T) {
	for _, k := range knowns() {
		for _, at := range times() {
			if got, want := germ.After(polyOf(k.p), ratOf(at)), k.after(placeOf(at)); got != want {
				t.Fatal(k, at, got, want)
			}
		}
	}
	for _, c := range []struct {
		p    api.Poly
		t    api.Rat
		want int
	}{
		{raw(0, 0, 1), fraction(0, 1), 1}, {raw(0, 0, 0, -1), fraction(0, 1), -1}, {raw(0, 0, 0, 1), fraction(-1, 1<<40), -1}, {raw(0, 0, 0, 1), fraction(1, 1<<40), 1},
		// A root that is simple, and one that is not, from both sides.
		{raw(-1, 1), fraction(1, 1), 1}, {raw(1, -1), fraction(1, 1), -1}, {raw(-1, 2, -1), fraction(1, 1), -1}, {raw(1, -3, 3, -1), fraction(1, 1), -1}, {raw(1, -3, 3, -1), fraction(0, 1), 1},
		{raw(7), fraction(3, 1), 1}, {raw(-7, 0), fraction(3, 1), -1},
		{raw(-1, 3), fraction(1, 3), 1}, {raw(-1, 3), fraction(-2, -6), 1}, {raw(1, 3), fraction(2, -6), 1}, {raw(2, -1), fraction(2, 0), -1}, {raw(0, 1), api.Rat{}, 1},
	} {
		if got := germ.After(c.p, c.t); got != c.want {
			t.Error(c, got)
		}
	}
	for _, p := range noPolys() {
		if got := germ.After(p, fraction(1, 2)); got != 0 {
			t.Error(p, got)
		}
	}
}

func TestAt(t *testing.T) {
	l := numbers(150)
	for _, k := range knowns() {
		p := polyOf(k.p)
		for _, x := range l {
			if got, want := germ.At(p, x.a), k.after(x.at); got != want {
				t.Fatal(k, x, got, want)
			}
		}
	}
	two := func(lo, hi int64) api.Alg { return api.Alg{P: raw(-2, 0, 1), Lo: fraction(lo, 1), Hi: fraction(hi, 1)} }
	for _, c := range []struct {
		p    api.Poly
		a    api.Alg
		want int
	}{
		{raw(-2, 0, 1), two(0, 9), 1}, {raw(-2, 0, 1), two(-9, 0), -1}, {raw(2, 0, -1), two(1, 2), -1}, {raw(4, 0, -4, 0, 1), two(-2, -1), 1}, {raw(4, 0, -4, 0, 1), two(1, 2), 1},
		{raw(-8, 0, 12, 0, -6, 0, 1), two(-2, -1), -1}, {raw(-8, 0, 12, 0, -6, 0, 1), two(1, 2), 1}, {raw(-1, 1), two(1, 2), 1}, {raw(-3, 2), two(1, 2), -1}, {raw(3), two(0, 2), 1}, {raw(-3), two(0, 2), -1},
		{raw(0, 0, -1), alg.Of(fraction(0, 1)), -1}, {raw(-1, 2), api.Alg{P: raw(-1, 2), Lo: fraction(0, 1), Hi: fraction(1, 2)}, 1},
	} {
		if got := germ.At(c.p, c.a); got != c.want {
			t.Error(c, got)
		}
	}
	for _, p := range noPolys() {
		for _, a := range []api.Alg{two(0, 2), alg.Of(fraction(0, 1))} {
			if got := germ.At(p, a); got != 0 {
				t.Error(p, a, got)
			}
		}
	}
}

func TestTurns(t *testing.T) {
	for _, k := range knowns() {
		got, want := germ.Turns(polyOf(k.p)), turning(k.roots)
		if len(got) != len(want) {
			t.Fatal(k, got)
		}
		for i, a := range got {
			checkNumber(t, a, want[i])
		}
	}
	for _, c := range []struct {
		p    api.Poly
		want []place
	}{
		{raw(0, 0, 1), nil}, {raw(0, 0, 0, 1), []place{new(big.Rat)}}, {raw(0, 0, 0, -7, 0), []place{new(big.Rat)}}, {raw(5), nil}, {raw(1, 0, 1), nil},
		{raw(-2, 0, 1), []place{big.NewRat(-2, 1), big.NewRat(2, 1)}}, {raw(4, 0, -4, 0, 1), nil},
		// (t - 1)^3 (t + 2)
		{raw(-2, 5, -3, -1, 1), []place{big.NewRat(-4, 1), big.NewRat(1, 1)}},
		// (t - 1)^2 (t + 2)
		{raw(2, -3, 0, 1), []place{big.NewRat(-4, 1)}},
	} {
		got := germ.Turns(c.p)
		if len(got) != len(c.want) {
			t.Fatal(c, got)
		}
		for i, a := range got {
			checkNumber(t, a, c.want[i])
		}
	}
	for _, p := range noPolys() {
		if got := germ.Turns(p); len(got) != 0 {
			t.Error(p, got)
		}
	}
}

func TestNext(t *testing.T) {
	l := numbers(200)
	for _, k := range knowns() {
		p := polyOf(k.p)
		for _, x := range l {
			got, ok := germ.Next(p, x.a)
			checkNext(t, got, ok, turning(k.above(x.at)))
		}
	}
	// All turns of a polynomial, one after another, with multiple roots between them.
	k := rational(big.NewRat(1, 2)).and(roots(2, 1)).and(roots(3, 1)).and(roots(3, 1)).and(rational(big.NewRat(9, 1)))
	a := alg.Of(fraction(-10, 1))
	for left := turning(k.roots); ; left = left[1:] {
		next, ok := germ.Next(polyOf(k.p), a)
		checkNext(t, next, ok, left)
		if !ok {
			break
		}
		a = next
	}
	for _, p := range append(noPolys(), raw(4), raw(-4, 0), raw(0, 0, 1), raw(1, 0, 1)) {
		got, ok := germ.Next(p, alg.Of(fraction(-1, 1)))
		checkNext(t, got, ok, nil)
	}
}

// TestNextInterval has roots at both ends of the interval that a number is given by, within it on both sides, and not far from it.
func TestNextInterval(t *testing.T) {
	two := number{api.Alg{P: raw(-2, 0, 1), Lo: fraction(1, 1), Hi: fraction(2, 1)}, big.NewRat(2, 1)}
	one := number{api.Alg{P: raw(0, -1, 1), Lo: fraction(0, 1), Hi: fraction(1, 1)}, big.NewRat(1, 1)}
	self := number{alg.Of(fraction(3, 2)), big.NewRat(9, 4)}
	short := number{api.Alg{P: raw(-2, 0, 1), Lo: fraction(41, 29), Hi: fraction(99, 70)}, big.NewRat(2, 1)}
	minus := number{api.Alg{P: raw(-2, 0, 1), Lo: fraction(-99, 70), Hi: fraction(-41, 29)}, big.NewRat(-2, 1)}
	places := []known{rational(big.NewRat(0, 1)), rational(big.NewRat(1, 1)), rational(big.NewRat(7, 5)), roots(2, 1), rational(big.NewRat(10, 7)), rational(big.NewRat(3, 2)), rational(big.NewRat(2, 1)), rational(big.NewRat(3, 1)), rational(big.NewRat(-4, 3)), rational(big.NewRat(-1, 1))}
	for pick := range 1 << len(places) {
		k := known{p: small(1)}
		for i, f := range places {
			if pick>>i&1 == 1 {
				k = k.and(f)
			}
		}
		for _, x := range []number{two, one, self, short, minus} {
			got, ok := germ.Next(polyOf(k.p), x.a)
			checkNext(t, got, ok, turning(k.above(x.at)))
		}
	}
}

func TestFirst(t *testing.T) {
	d := draw(6)
	l, kinds := numbers(90), knowns()
	for range 1500 {
		x := l[d.next(len(l))]
		var polys []api.Poly
		var want []place
		for range d.next(5) {
			k := kinds[d.next(len(kinds))]
			polys = append(polys, polyOf(k.p))
			want = append(want, turning(k.above(x.at))...)
		}
		slices.SortFunc(want, place.Cmp)
		got, ok := germ.First(x.a, polys...)
		checkNext(t, got, ok, want)
	}
	zero := alg.Of(fraction(0, 1))
	for _, c := range []struct {
		l    []api.Poly
		want []place
	}{
		{nil, nil}, {[]api.Poly{}, nil}, {noPolys(), nil}, {[]api.Poly{raw(0, 1), raw(1, 1), raw(3), raw(4, -4, 1)}, nil},
		{[]api.Poly{raw(-2, 0, 1), nil, raw(-7, 5), raw(-10, 7), raw(1, -2, 1)}, []place{big.NewRat(49, 25)}},
		{[]api.Poly{raw(-10, 7), raw(0, 1), raw(-2, 0, 1), raw(2, 0, -1), raw(-8, 0, 4)}, []place{big.NewRat(2, 1)}},
		{[]api.Poly{nil, raw(1), raw(-10, 7)}, []place{big.NewRat(100, 49)}},
	} {
		got, ok := germ.First(zero, c.l...)
		checkNext(t, got, ok, c.want)
	}
}

// TestBetweenTurns: the sign just after a turn is that up to the next one, and no other sign is the last one's.
func TestBetweenTurns(t *testing.T) {
	d := draw(11)
	for range 100 {
		p := polyOf(d.powers())
		far := alg.Of(ratOf(new(big.Rat).Neg(rowOf(p).bound())))
		s := germ.At(p, far)
		l := germ.Turns(p)
		for i, a := range l {
			if !isolate.Valid(a) || i > 0 && alg.Cmp(l[i-1], a) >= 0 {
				t.Fatal(p, l)
			}
			s = -s
			if got := germ.At(p, a); got != s {
				t.Fatal(p, a, got)
			}
			next, ok := germ.Next(p, a)
			if ok != (i+1 < len(l)) || ok && alg.Cmp(next, l[i+1]) != 0 {
				t.Fatal(p, a, next, ok)
			}
		}
		if next, ok := germ.First(far, p); ok != (len(l) > 0) || ok && alg.Cmp(next, l[0]) != 0 {
			t.Fatal(p, next, ok)
		}
	}
}
