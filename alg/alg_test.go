package alg_test

import (
	"math"
	"math/big"
	"slices"
	"testing"

	"orrery/alg"
	"orrery/api"
	"orrery/isolate"
)

// checkKept tells whether a is in the form of a result and still the number at r.
func checkKept(t *testing.T, a api.Alg, r place) {
	t.Helper()
	if !same(a.P, polyOf(rowOf(a.P))) || !sameRat(a.Lo, ratOf(bigRat(a.Lo))) || !sameRat(a.Hi, ratOf(bigRat(a.Hi))) {
		t.Fatal(a, "not normal")
	}
	if !isolate.Valid(a) || !has(a, r) {
		t.Fatal(a, r)
	}
}

func TestOf(t *testing.T) {
	for _, x := range times() {
		want := api.Alg{P: polyOf(linear(x)), Lo: ratOf(x), Hi: ratOf(x)}
		got := alg.Of(ratOf(x))
		if !sameAlg(got, want) {
			t.Error(x, got, want)
		}
		checkKept(t, got, placeOf(x))
	}
	for _, c := range []struct {
		t    api.Rat
		p    api.Poly
		n, d int64
	}{
		{api.Rat{}, raw(0, 1), 0, 1}, {fraction(0, -7), raw(0, 1), 0, 1}, {fraction(5, 0), raw(-5, 1), 5, 1}, {fraction(6, -4), raw(3, 2), -3, 2}, {fraction(-6, -4), raw(-3, 2), 3, 2},
	} {
		if got := alg.Of(c.t); !sameAlg(got, api.Alg{P: c.p, Lo: fraction(c.n, c.d), Hi: fraction(c.n, c.d)}) {
			t.Error(c, got)
		}
	}
}

func TestCmp(t *testing.T) {
	l := numbers(400)
	for _, x := range l {
		for _, y := range l {
			if got, want := alg.Cmp(x.a, y.a), x.at.Cmp(y.at); got != want {
				t.Fatal(x, y, got, want)
			}
		}
	}
	wide, near := api.Alg{P: raw(-2, 0, 1), Lo: fraction(0, 1), Hi: fraction(9, 1)}, api.Alg{P: raw(4, 0, -2), Lo: fraction(7, 5), Hi: fraction(10, 7)}
	below := api.Alg{P: raw(-2, 0, 1), Lo: fraction(-9, 1), Hi: fraction(0, 1)}
	if alg.Cmp(wide, near) != 0 || alg.Cmp(near, below) != 1 || alg.Cmp(below, wide) != -1 || alg.Cmp(alg.Of(fraction(7, 5)), near) != -1 || alg.Cmp(alg.Of(fraction(10, 7)), wide) != 1 {
		t.Error("square roots of 2")
	}
}

func TestCmpRat(t *testing.T) {
	for _, x := range numbers(100) {
		for _, at := range times() {
			if got, want := alg.CmpRat(x.a, ratOf(at)), x.at.Cmp(placeOf(at)); got != want {
				t.Fatal(x, at, got, want)
			}
		}
	}
}

func TestSign(t *testing.T) {
	var polys []row
	for i, k := range knowns() {
		if i%3 == 0 {
			// The last one has roots that are multiple ones, which numbers have as single ones.
			polys = append(polys, k.p, k.p.derived(), k.p.times(small(-1, 2)), k.p.times(k.p))
		}
	}
	for _, x := range numbers(400) {
		for _, p := range polys {
			if got, want := alg.Sign(polyOf(p), x.a), signAt(p, x.at); got != want {
				t.Fatal(x, p, got, want)
			}
		}
		for _, p := range []api.Poly{nil, {}, noughts(), raw(7), raw(-7, 0), raw(0, 1), raw(0, -1)} {
			if got, want := alg.Sign(p, x.a), signAt(rowOf(p), x.at); got != want {
				t.Fatal(x, p, got, want)
			}
		}
	}
	if got := alg.Sign(raw(-2, 0, 1), api.Alg{P: raw(-2, 0, 1), Lo: fraction(0, 1), Hi: fraction(2, 1)}); got != 0 {
		t.Error("the example", got)
	}
}

// shuffled are the numbers in another order.
func shuffled(l []number, d *draw) []number {
	l = slices.Clone(l)
	for i := range l {
		k := i + d.next(len(l)-i)
		l[i], l[k] = l[k], l[i]
	}
	return l
}

// algs are the numbers alone.
func algs(l []number) []api.Alg {
	var out []api.Alg
	for _, x := range l {
		out = append(out, x.a)
	}
	return out
}

// TestSort tells equal numbers apart by their polynomials and intervals.
func TestSort(t *testing.T) {
	d := draw(9)
	l := numbers(100)
	for size := range 40 {
		some := shuffled(l, &d)[:size]
		given := algs(some)
		got := alg.Sort(given...)
		if !equal(given, algs(some)) {
			t.Fatal("the arguments are in another order")
		}
		slices.SortStableFunc(some, func(x, y number) int { return x.at.Cmp(y.at) })
		if !equal(got, algs(some)) {
			t.Fatal(got, some)
		}
	}
	two := func(lo, hi int64) api.Alg { return api.Alg{P: raw(-2, 0, 1), Lo: fraction(lo, 1), Hi: fraction(hi, 1)} }
	if got := alg.Sort(two(0, 2), alg.Of(fraction(1, 1)), two(1, 3), two(-3, 0), two(0, 3)); !equal(got, []api.Alg{two(-3, 0), alg.Of(fraction(1, 1)), two(0, 2), two(1, 3), two(0, 3)}) {
		t.Error(got)
	}
	if got := alg.Sort(); len(got) != 0 {
		t.Error(got)
	}
}

func TestLeast(t *testing.T) {
	d := draw(10)
	l := numbers(100)
	for size := 1; size < 40; size++ {
		some := shuffled(l, &d)[:size]
		got, ok := alg.Least(algs(some)...)
		if want := slices.MinFunc(some, func(x, y number) int { return x.at.Cmp(y.at) }); !ok || !sameAlg(got, want.a) {
			t.Fatal(got, ok, want)
		}
	}
	one := api.Alg{P: raw(-1, 1), Lo: fraction(0, 1), Hi: fraction(2, 1)}
	if got, ok := alg.Least(alg.Of(fraction(2, 1)), one, alg.Of(fraction(1, 1))); !ok || !sameAlg(got, one) {
		t.Error(got, ok)
	}
	if got, ok := alg.Least(alg.Of(fraction(2, 1)), alg.Of(fraction(1, 1)), one); !ok || !sameAlg(got, alg.Of(fraction(1, 1))) {
		t.Error(got, ok)
	}
	if got, ok := alg.Least(); ok || !sameAlg(got, api.Alg{}) {
		t.Error(got, ok)
	}
}

func TestRefine(t *testing.T) {
	for _, x := range numbers(300) {
		for _, n := range []int{math.MinInt, -3, 0, 1, 2, 7, 64, 255, 256, 257, math.MaxInt} {
			got := alg.Refine(x.a, n)
			checkKept(t, got, x.at)
			lo, hi := bigRat(got.Lo), bigRat(got.Hi)
			if !same(got.P, x.a.P) || lo.Cmp(bigRat(x.a.Lo)) < 0 || hi.Cmp(bigRat(x.a.Hi)) > 0 {
				t.Fatal(x, n, got)
			}
			if hi.Sub(hi, lo).Cmp(power(-min(max(n, 0), 256))) > 0 {
				t.Fatal(x, n, got, "too long")
			}
		}
	}
}

func TestRational(t *testing.T) {
	for _, x := range numbers(50) {
		got, ok := alg.Rational(x.a)
		want, yes := rootOf(x.at)
		if ok != yes || ok && !sameRat(got, ratOf(want)) || !ok && !sameRat(got, api.Rat{}) {
			t.Fatal(x, got, ok)
		}
	}
	for _, c := range []struct {
		a    api.Alg
		n, d int64
	}{
		// Roots among others that are not rational, and with a denominator that divides the leading coefficient or is it.
		{api.Alg{P: raw(2, -3, -1, 0), Lo: fraction(0, 1), Hi: fraction(1, 1)}, 0, 0},
		{api.Alg{P: raw(-1, 4, 1, -4), Lo: fraction(0, 1), Hi: fraction(1, 2)}, 1, 4},
		{api.Alg{P: raw(2, -6, -1, 3), Lo: fraction(0, 1), Hi: fraction(1, 1)}, 1, 3},
		{api.Alg{P: raw(2, -6, -1, 3), Lo: fraction(1, 1), Hi: fraction(2, 1)}, 0, 0},
		{api.Alg{P: raw(-7, 1000003), Lo: fraction(-1<<40, 1), Hi: fraction(1<<40, 1)}, 7, 1000003},
		{api.Alg{P: raw(0, 5), Lo: fraction(-1, 3), Hi: fraction(1, 3)}, 0, 1},
		// The cube root of 2, and what is very near it.
		{api.Alg{P: raw(-2, 0, 0, 1), Lo: fraction(0, 1), Hi: fraction(2, 1)}, 0, 0},
		{api.Alg{P: raw(-1259921, 1000000), Lo: fraction(0, 1), Hi: fraction(2, 1)}, 1259921, 1000000},
	} {
		got, ok := alg.Rational(c.a)
		want := api.Rat{}
		if c.d != 0 {
			want = fraction(c.n, c.d)
		}
		if ok != (c.d != 0) || !sameRat(got, want) {
			t.Error(c, got, ok)
		}
	}
}

// checkBetween tells whether Between is right for two numbers.
func checkBetween(t *testing.T, x, y number) {
	t.Helper()
	got, err := alg.Between(x.a, y.a)
	if x.at.Cmp(y.at) >= 0 {
		if err != api.ErrArg || !sameRat(got, api.Rat{}) {
			t.Fatal(x, y, got, err)
		}
		return
	}
	at := bigRat(got)
	if err != api.OK || !sameRat(got, ratOf(at)) || placeOf(at).Cmp(x.at) <= 0 || placeOf(at).Cmp(y.at) >= 0 {
		t.Fatal(x, y, got, err)
	}
}

func TestBetween(t *testing.T) {
	l := numbers(400)
	for _, x := range l {
		for _, y := range l {
			checkBetween(t, x, y)
		}
	}
	// Intervals that meet, with a number at Hi or not, and another root where they meet.
	two, one := roots(2, 1), rational(1, 1)
	both := two.and(one)
	for _, k := range []known{one, both} {
		x, _ := k.number(big.NewRat(-1, 1), big.NewRat(1, 1))
		y, _ := k.number(big.NewRat(1, 1), big.NewRat(1, 1))
		z, _ := two.number(big.NewRat(1, 1), big.NewRat(2, 1))
		for _, a := range []number{x, y, z} {
			for _, b := range []number{x, y, z} {
				checkBetween(t, a, b)
			}
		}
	}
}
