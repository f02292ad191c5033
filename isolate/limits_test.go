package isolate_test

import (
	"math/big"
	"testing"

	"orrery/api"
	"orrery/isolate"
)

// power is 2^e.
func power(e int) *big.Rat {
	n := new(big.Int).Lsh(big.NewInt(1), uint(max(e, -e)))
	if e < 0 {
		return new(big.Rat).SetFrac(big.NewInt(1), n)
	}
	return new(big.Rat).SetInt(n)
}

// rational is the polynomial with this root.
func rational(x *big.Rat) known {
	return known{row{new(big.Rat).SetInt(new(big.Int).Neg(x.Num())), new(big.Rat).SetInt(x.Denom())}, []place{placeOf(x)}}
}

// TestMany has as many roots as the limits let be.
func TestMany(t *testing.T) {
	for _, d := range []int64{1, 7} {
		k := known{p: small(1)}
		for n := range int64(api.MaxTerms - 1) {
			k = k.and(linear(n-20, d))
		}
		checkKnown(t, k.p.reduced(), rootsOf(t, polyOf(k.p)), k.roots, nil, nil)
		lo, hi := big.NewRat(-3, d), big.NewRat(11, 2)
		checkKnown(t, k.p.reduced(), isolate.Within(polyOf(k.p), ratOf(lo), ratOf(hi)), k.between(lo, hi), lo, hi)
	}
}

// TestClose has roots that only a very short interval tells apart.
func TestClose(t *testing.T) {
	one := big.NewRat(1, 1)
	for _, x := range []*big.Rat{one, big.NewRat(-1, 1), big.NewRat(1, 3), big.NewRat(-5, 7)} {
		near := new(big.Rat).Add(x, power(-1500))
		k := rational(x).and(rational(near)).and(linear(9, 1))
		checkKnown(t, k.p.reduced(), rootsOf(t, polyOf(k.p)), k.roots, nil, nil)
		for _, lo := range []*big.Rat{new(big.Rat).Sub(x, power(-1600)), x, near} {
			for _, hi := range []*big.Rat{x, near, big.NewRat(20, 1)} {
				checkKnown(t, k.p.reduced(), isolate.Within(polyOf(k.p), ratOf(lo), ratOf(hi)), k.between(lo, hi), lo, hi)
			}
			want := k.between(lo, nil)
			a, ok := isolate.First(polyOf(k.p), ratOf(lo))
			checkKnown(t, k.p.reduced(), checkFirst(t, a, ok, len(want)), want[:1], lo, nil)
			if got := isolate.Valid(api.Alg{P: polyOf(k.p), Lo: ratOf(lo), Hi: ratOf(near)}); got != (len(k.between(lo, near)) == 1 || lo.Cmp(near) == 0) {
				t.Error(x, lo, got)
			}
		}
	}
	// Two square roots whose squares differ by 2^-200, and two that are not real though nearly so.
	n, d := new(big.Rat).Add(big.NewRat(2, 1), power(-200)), power(300)
	k := roots(2, 1).and(known{row{new(big.Rat).Mul(new(big.Rat).Neg(n), d), new(big.Rat), d}, []place{new(big.Rat).Neg(n), n}})
	k = k.and(known{p: row{new(big.Rat).Add(d, big.NewRat(1, 1)), new(big.Rat).Mul(d, big.NewRat(-2, 1)), d}})
	checkKnown(t, k.p.reduced(), rootsOf(t, polyOf(k.p)), k.roots, nil, nil)
}

// TestFar has roots of very different sizes, and bounds far beyond them.
func TestFar(t *testing.T) {
	k := linear(0, 1)
	for _, e := range []int{-400, -120, -30, 0, 50, 200} {
		k = k.and(rational(power(e))).and(rational(new(big.Rat).Neg(power(e + 1))))
	}
	checkKnown(t, k.p.reduced(), rootsOf(t, polyOf(k.p)), k.roots, nil, nil)
	for _, lo := range []*big.Rat{new(big.Rat).Neg(power(2000)), new(big.Rat), power(-500), power(-120), power(60), power(201)} {
		want := k.between(lo, nil)
		a, ok := isolate.First(polyOf(k.p), ratOf(lo))
		checkKnown(t, k.p.reduced(), checkFirst(t, a, ok, len(want)), want[:min(1, len(want))], lo, nil)
		for _, hi := range []*big.Rat{power(-300), power(30), power(200), power(2000)} {
			checkKnown(t, k.p.reduced(), isolate.Within(polyOf(k.p), ratOf(lo), ratOf(hi)), k.between(lo, hi), lo, hi)
		}
	}
}

// TestLongest has the longest polynomials that the limits let be. None of their roots is at an end of an interval, so the signs at its ends differ.
func TestLongest(t *testing.T) {
	d := draw(8)
	for _, terms := range []int{api.MaxTerms - 1, api.MaxTerms} {
		p := d.long(terms, api.MaxLimbs)
		r := rowOf(p)
		far := r.bound()
		last := new(big.Rat).Neg(far)
		odd := r.at(last).Sign() != r.at(far).Sign()
		l := rootsOf(t, p)
		if (len(l)%2 == 1) != odd {
			t.Error(terms, len(l))
		}
		for i, a := range l {
			low, high := bigRat(a.Lo), bigRat(a.Hi)
			if i > 0 && low.Cmp(last) < 0 || low.Cmp(high) >= 0 || r.at(low).Sign() == r.at(high).Sign() || !isolate.Valid(a) {
				t.Error(terms, i, a.Lo, a.Hi)
			}
			last = high
		}
	}
}
