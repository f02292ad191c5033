package germ_test

import (
	"math/big"
	"testing"

	"orrery/alg"
	"orrery/api"
	"orrery/germ"
	"orrery/isolate"
)

// TestHighest has roots of the highest multiplicities that the limits let be.
func TestHighest(t *testing.T) {
	third := rational(big.NewRat(1, 3))
	k, l := known{p: small(-1)}, rational(big.NewRat(-1, 1))
	for range (api.MaxTerms - 1) / 2 {
		k, l = k.and(third).and(third), l.and(roots(2, 1))
	}
	// The first one has a multiplicity of 62 now, and the others of 31.
	for _, c := range []known{k, k.and(third), l} {
		p := polyOf(c.p)
		for _, at := range []*big.Rat{big.NewRat(-2, 1), big.NewRat(-7, 5), new(big.Rat), big.NewRat(1, 3), big.NewRat(4, 3), big.NewRat(3, 2)} {
			if got, want := germ.After(p, ratOf(at)), c.after(placeOf(at)); got != want {
				t.Error(c, at, got, want)
			}
			a, ok := germ.Next(p, alg.Of(ratOf(at)))
			checkNext(t, a, ok, turning(c.above(placeOf(at))))
		}
		for _, x := range []number{
			{api.Alg{P: raw(-2, 0, 1), Lo: fraction(1, 1), Hi: fraction(2, 1)}, big.NewRat(2, 1)}, {api.Alg{P: raw(-2, 0, 1), Lo: fraction(-9, 1), Hi: fraction(0, 1)}, big.NewRat(-2, 1)},
			{api.Alg{P: raw(1, -3, -1, 3), Lo: fraction(-1, 1), Hi: fraction(1, 2)}, big.NewRat(1, 9)}, {alg.Of(fraction(1, 3)), big.NewRat(1, 9)},
		} {
			if got, want := germ.At(p, x.a), c.after(x.at); got != want {
				t.Error(c, x, got, want)
			}
			a, ok := germ.Next(p, x.a)
			checkNext(t, a, ok, turning(c.above(x.at)))
		}
	}
}

// TestClose has roots that only hundreds of binary digits tell apart, one of them a double one.
func TestClose(t *testing.T) {
	x := big.NewRat(1, 3)
	near, nearer := new(big.Rat).Add(x, power(-500)), new(big.Rat).Add(x, power(-800))
	k := rational(x).and(rational(nearer)).and(rational(nearer)).and(rational(near))
	p := polyOf(k.p)
	wide := func(y *big.Rat) api.Alg { return api.Alg{P: polyOf(linear(y)), Lo: fraction(0, 1), Hi: fraction(1, 1)} }
	for _, y := range []*big.Rat{x, nearer, near, new(big.Rat).Sub(x, power(-801)), new(big.Rat).Add(x, power(-700))} {
		if got, want := germ.After(p, ratOf(y)), k.after(placeOf(y)); got != want {
			t.Error(y, got, want)
		}
		for _, a := range []api.Alg{wide(y), alg.Of(ratOf(y))} {
			if got, want := germ.At(p, a), k.after(placeOf(y)); got != want {
				t.Error(y, got, want)
			}
			got, ok := germ.Next(p, a)
			checkNext(t, got, ok, turning(k.above(placeOf(y))))
		}
	}
	got, ok := germ.First(alg.Of(fraction(0, 1)), polyOf(linear(near)), polyOf(linear(nearer)), polyOf(linear(x).power(2)))
	checkNext(t, got, ok, []place{placeOf(nearer)})
}

// TestMany has as many turns as the limits let be.
func TestMany(t *testing.T) {
	k := known{p: small(1)}
	for n := range int64(api.MaxTerms - 1) {
		k = k.and(rational(big.NewRat(n-20, 7)))
	}
	p, left := polyOf(k.p), turning(k.roots)
	for i, a := range germ.Turns(p) {
		checkNumber(t, a, left[i])
		if got, want := germ.At(p, a), k.after(left[i]); got != want {
			t.Error(a, got, want)
		}
		if next, ok := germ.Next(p, a); i%5 == 0 || i > 60 {
			checkNext(t, next, ok, left[i+1:])
		}
	}
	var lines []api.Poly
	for n := range int64(api.MaxTerms - 1) {
		lines = append(lines, raw(n-42, 7))
	}
	got, ok := germ.First(alg.Of(fraction(-1, 2)), lines...)
	checkNext(t, got, ok, []place{placeOf(big.NewRat(-3, 7))})
}

// TestLongest has the longest polynomials that the limits let be. Their roots are simple ones, and none is at an end of an interval.
func TestLongest(t *testing.T) {
	d := draw(14)
	for _, terms := range []int{api.MaxTerms - 1, api.MaxTerms} {
		p, q := d.long(terms, api.MaxLimbs), d.long(terms, api.MaxLimbs)
		r := rowOf(p)
		s := r.at(new(big.Rat).Neg(r.bound())).Sign()
		l := germ.Turns(p)
		for i, a := range l {
			s = -s
			if got := germ.At(p, a); got != s || r.at(bigRat(a.Hi)).Sign() != s || !isolate.Valid(a) {
				t.Error(terms, i, a, got)
			}
			if got := germ.After(p, a.Hi); got != s {
				t.Error(terms, i, a, got)
			}
			if next, ok := germ.Next(p, a); ok != (i+1 < len(l)) || ok && alg.Cmp(next, l[i+1]) != 0 {
				t.Error(terms, i, a, next)
			}
			next, ok := germ.First(a, q, p)
			if other, also := germ.Next(q, a); also && (i+1 == len(l) || alg.Cmp(other, l[i+1]) < 0) {
				if !ok || alg.Cmp(next, other) != 0 {
					t.Error(terms, i, a, next)
				}
			} else if ok != (i+1 < len(l)) || ok && alg.Cmp(next, l[i+1]) != 0 {
				t.Error(terms, i, a, next)
			}
		}
	}
}

// TestLongEnds has a time, and the ends of a number's interval, with as many digits as the limits let be.
func TestLongEnds(t *testing.T) {
	d := draw(15)
	p, x := d.long(api.MaxTerms, api.MaxLimbs), d.long(2, api.MaxLimbs)
	x[1].Neg = false
	at := api.Rat{Int: x[0], D: x[1]}
	if got, want := germ.After(p, at), rowOf(p).at(bigRat(at)).Sign(); got != want {
		t.Error(at, got, want)
	}
	k := roots(2, 1).and(roots(3, 1)).and(rational(big.NewRat(7, 5)))
	step := new(big.Rat).Inv(new(big.Rat).SetInt(bigOf(api.Int{L: d.limbs(api.MaxLimbs - 1).L})))
	ends := [][2]*big.Rat{{big.NewRat(1, 1), big.NewRat(2, 1)}, {big.NewRat(141, 100), big.NewRat(3, 2)}, {new(big.Rat), power(30)}}
	for _, e := range ends {
		a := api.Alg{P: raw(-2, 0, 1), Lo: ratOf(new(big.Rat).Add(e[0], step)), Hi: ratOf(new(big.Rat).Sub(e[1], step))}
		if got, want := germ.At(polyOf(k.p), a), k.after(big.NewRat(2, 1)); got != want {
			t.Error(a, got, want)
		}
		next, ok := germ.Next(polyOf(k.p), a)
		checkNext(t, next, ok, turning(k.above(big.NewRat(2, 1))))
		if next, ok := germ.First(a, p, polyOf(k.p)); !ok || alg.Cmp(next, a) <= 0 || alg.CmpRat(next, fraction(2, 1)) >= 0 {
			t.Error(a, next, ok)
		}
	}
}
