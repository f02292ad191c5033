package alg_test

import (
	"math/big"
	"testing"

	"orrery/alg"
	"orrery/api"
)

// scaled is r with whole coefficients: those of r times this number.
func (r row) scaled(by *big.Rat) row {
	return r.times(row{by})
}

// TestClose has numbers of which only thousands of binary digits tell that they differ.
func TestClose(t *testing.T) {
	for _, e := range []int{300, 1500, 1990} {
		// Both are roots of what they share a factor with, one is rational in a wide interval.
		x, rest := big.NewRat(1, 3), small(3, 0, 0, 0, 0, -7, 0, 9)
		near := new(big.Rat).Add(x, power(-e))
		k, l := known{linear(x).times(rest), []place{placeOf(x)}}, known{linear(near), []place{placeOf(near)}}
		a := number{api.Alg{P: polyOf(k.p), Lo: fraction(0, 1), Hi: fraction(1, 2)}, placeOf(x)}
		b := number{api.Alg{P: polyOf(l.p), Lo: fraction(0, 1), Hi: fraction(1, 2)}, placeOf(near)}
		checkClose(t, a, b)
		if got, ok := alg.Rational(b.a); !ok || !sameRat(got, ratOf(near)) {
			t.Error(e, got, ok)
		}
		checkClose(t, a, number{alg.Of(ratOf(near)), placeOf(near)})
		// Two square roots whose squares differ by 2^-e.
		n := new(big.Rat).Add(big.NewRat(2, 1), power(-e))
		c := number{api.Alg{P: raw(-2, 0, 1), Lo: fraction(0, 1), Hi: fraction(9, 1)}, big.NewRat(2, 1)}
		d := number{api.Alg{P: polyOf(row{new(big.Rat).Neg(n), new(big.Rat), big.NewRat(1, 1)}.scaled(power(e))), Lo: fraction(-1, 1), Hi: fraction(3, 1)}, n}
		checkClose(t, c, d)
	}
}

// checkClose tells whether all calls see that x is less than y.
func checkClose(t *testing.T, x, y number) {
	t.Helper()
	if alg.Cmp(x.a, y.a) != -1 || alg.Cmp(y.a, x.a) != 1 || alg.Cmp(x.a, x.a) != 0 || alg.Cmp(y.a, y.a) != 0 {
		t.Error("Cmp", x, y)
	}
	checkBetween(t, x, y)
	checkBetween(t, y, x)
	for _, c := range [][2]number{{x, y}, {y, x}} {
		if got, want := alg.Sign(c[0].a.P, c[1].a), signAt(rowOf(c[0].a.P), c[1].at); got != want {
			t.Error("Sign", c, got, want)
		}
	}
	if got, ok := alg.Least(y.a, x.a, y.a); !ok || !sameAlg(got, x.a) {
		t.Error("Least", got, ok)
	}
	if got := alg.Sort(y.a, x.a, y.a, x.a); !equal(got, []api.Alg{x.a, x.a, y.a, y.a}) {
		t.Error("Sort", got)
	}
}

// TestFar has intervals far longer than what is in them, and numbers very near their ends.
func TestFar(t *testing.T) {
	far := new(big.Rat).Sub(power(2040), big.NewRat(1, 1))
	for _, c := range []struct {
		p      row
		lo, hi *big.Rat
		at     place
	}{
		{small(-2, 0, 1), new(big.Rat), far, big.NewRat(2, 1)},
		{small(-2, 0, 1), new(big.Rat).Neg(far), new(big.Rat), big.NewRat(-2, 1)},
		{small(-2, 0, 1).times(small(1, 0, 0, 0, 3)), big.NewRat(1, 7), far, big.NewRat(2, 1)},
		// Another root at Lo, and the number just above it.
		{linear(power(-1500)).times(small(0, 1)), new(big.Rat), far, power(-3000)},
		{linear(power(-1500)).times(small(0, 1)), new(big.Rat), power(-1500), power(-3000)},
		{linear(new(big.Rat).Sub(far, power(-9))).times(linear(new(big.Rat).Neg(far))), new(big.Rat).Neg(far), far, placeOf(new(big.Rat).Sub(far, power(-9)))},
	} {
		x := number{api.Alg{P: polyOf(c.p), Lo: ratOf(c.lo), Hi: ratOf(c.hi)}, c.at}
		for _, n := range []int{0, 256} {
			got := alg.Refine(x.a, n)
			checkKept(t, got, x.at)
			if width := new(big.Rat).Sub(bigRat(got.Hi), bigRat(got.Lo)); width.Cmp(power(-n)) > 0 || bigRat(got.Lo).Cmp(c.lo) < 0 || bigRat(got.Hi).Cmp(c.hi) > 0 {
				t.Error(c, got)
			}
			if alg.Cmp(got, x.a) != 0 {
				t.Error(c, got)
			}
		}
		want, rational := rootOf(c.at)
		if got, ok := alg.Rational(x.a); ok != rational || ok && !sameRat(got, ratOf(want)) {
			t.Error(c, got, ok)
		}
		for _, at := range []*big.Rat{c.lo, c.hi, new(big.Rat), power(-1500), power(-1501), far, big.NewRat(7, 5), big.NewRat(-7, 5)} {
			if got, want := alg.CmpRat(x.a, ratOf(at)), c.at.Cmp(placeOf(at)); got != want {
				t.Error(c, at, got, want)
			}
			y := number{alg.Of(ratOf(at)), placeOf(at)}
			checkBetween(t, x, y)
			checkBetween(t, y, x)
		}
	}
}

// TestMany sorts as many roots as the limits let one polynomial have, together with those of another one.
func TestMany(t *testing.T) {
	p, q := small(1), small(1)
	var want []api.Alg
	for n := range int64(api.MaxTerms - 1) {
		p = p.times(linear(big.NewRat(n-20, 7)))
		if n%3 == 0 {
			q = q.times(linear(big.NewRat(n-20, 7)))
		}
	}
	ps, qs := rootsOf(t, polyOf(p)), rootsOf(t, polyOf(q))
	var given []api.Alg
	for i := range ps {
		given = append(given, ps[len(ps)-1-i])
		if i%3 == 0 {
			want = append(want, qs[i/3])
			given = append(given, qs[len(qs)-1-i/3])
		}
		want = append(want, ps[i])
	}
	got := alg.Sort(given...)
	if len(got) != len(want) {
		t.Fatal(len(got), len(want))
	}
	for i := range want {
		if alg.Cmp(got[i], want[i]) != 0 {
			t.Error(i, got[i], want[i])
		}
	}
}

// TestLongest has the longest polynomials that the limits let be.
func TestLongest(t *testing.T) {
	d := draw(14)
	p, q := d.long(api.MaxTerms, api.MaxLimbs), d.long(api.MaxTerms, api.MaxLimbs)
	l := append(rootsOf(t, q), rootsOf(t, p)...)
	sorted := alg.Sort(append(l, l...)...)
	for i, a := range sorted {
		if i > 0 && alg.Cmp(sorted[i-1], a) > 0 {
			t.Error(i, a)
		}
		if i%6 == 0 {
			if got, ok := alg.Rational(a); ok {
				t.Error(i, a, got)
			}
		}
		of, other := p, q
		if same(a.P, polyOf(rowOf(q))) || same(a.P, negative(q)) {
			of, other = q, p
		}
		if alg.Sign(of, a) != 0 || alg.Sign(other, a) != rowOf(other).at(bigRat(alg.Refine(a, 256).Hi)).Sign() {
			t.Error(i, a)
		}
	}
}

func negative(p api.Poly) api.Poly {
	return polyOf(rowOf(p).times(small(-1)))
}
