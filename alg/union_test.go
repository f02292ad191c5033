package alg_test

import (
	"math/big"
	"slices"
	"testing"

	"orrery/alg"
	"orrery/api"
	"orrery/isolate"
	"orrery/pgcd"
)

// union is all roots of two squarefree polynomials together, and which of them are the roots of each.
type union struct {
	p, q   api.Poly
	all    []api.Alg
	ps, qs []int
}

// rootsOf are the roots of p, which is not 0.
func rootsOf(t *testing.T, p api.Poly) []api.Alg {
	t.Helper()
	l, err := isolate.Roots(p)
	if err != api.OK {
		t.Fatal(p, err)
	}
	return l
}

// unionOf counts, by Sturm's way, in which of the disjoint intervals of the product's roots p and q have one.
func unionOf(t *testing.T, p, q api.Poly) union {
	u := union{p: pgcd.Square(p), q: pgcd.Square(q)}
	u.all = rootsOf(t, polyOf(rowOf(u.p).times(rowOf(u.q))))
	inP, inQ := counterOf(rowOf(u.p)), counterOf(rowOf(u.q))
	for i, a := range u.all {
		lo, hi := bigRat(a.Lo), bigRat(a.Hi)
		if inP.between(lo, hi) == 1 {
			u.ps = append(u.ps, i)
		}
		if inQ.between(lo, hi) == 1 {
			u.qs = append(u.qs, i)
		}
	}
	return u
}

// unions calls f with polynomials of all kinds that often share roots.
func unions(t *testing.T, f func(u union)) {
	d := draw(12)
	for i := range 150 {
		p, q := d.few(2+i%7), d.few(1+i%5)
		if i%3 > 0 {
			s := d.few(2 + i%4)
			p, q = p.times(s), q.times(s)
		}
		f(unionOf(t, polyOf(p), polyOf(q)))
	}
	f(unionOf(t, d.long(9, 20), d.long(9, 30)))
	f(unionOf(t, d.long(12, 1), d.long(3, 2)))
}

func TestCmpUnion(t *testing.T) {
	unions(t, func(u union) {
		ps, qs := rootsOf(t, u.p), rootsOf(t, u.q)
		if len(ps) != len(u.ps) || len(qs) != len(u.qs) {
			t.Fatal(u, ps, qs)
		}
		for i, a := range ps {
			for k, b := range qs {
				want := min(max(u.ps[i]-u.qs[k], -1), 1)
				if alg.Cmp(a, b) != want || alg.Cmp(b, a) != -want || alg.Cmp(a, u.all[u.qs[k]]) != want || alg.Cmp(alg.Refine(a, 40), b) != want {
					t.Fatal(u, a, b, want)
				}
				if between, err := alg.Between(a, b); (err == api.OK) != (want < 0) || err == api.OK && (alg.CmpRat(a, between) >= 0 || alg.CmpRat(b, between) <= 0) {
					t.Fatal(u, a, b, between, err)
				}
			}
		}
	})
}

func TestSortUnion(t *testing.T) {
	unions(t, func(u union) {
		l := append(rootsOf(t, u.q), rootsOf(t, u.p)...)
		places := append(slices.Clone(u.qs), u.ps...)
		order := make([]int, len(l))
		for i := range order {
			order[i] = i
		}
		slices.SortStableFunc(order, func(i, k int) int { return places[i] - places[k] })
		var want []api.Alg
		for _, i := range order {
			want = append(want, l[i])
		}
		if got := alg.Sort(l...); !equal(got, want) {
			t.Fatal(u, got, want)
		}
		if got, ok := alg.Least(l...); ok != (len(l) > 0) || ok && !sameAlg(got, want[0]) {
			t.Fatal(u, got, ok)
		}
	})
}

func TestSignUnion(t *testing.T) {
	unions(t, func(u union) {
		for i, a := range rootsOf(t, u.p) {
			want := 0
			if one := u.all[u.ps[i]]; !slices.Contains(u.qs, u.ps[i]) {
				// No root of q is in this interval, so its sign there is that at the upper end.
				want = rowOf(u.q).at(bigRat(one.Hi)).Sign()
			}
			if got := alg.Sign(u.q, a); got != want {
				t.Fatal(u, a, got, want)
			}
		}
	})
}

func TestRefineUnion(t *testing.T) {
	unions(t, func(u union) {
		for i, a := range rootsOf(t, u.p) {
			for _, n := range []int{0, 9, 300} {
				got := alg.Refine(a, n)
				lo, hi := bigRat(got.Lo), bigRat(got.Hi)
				if !isolate.Valid(got) || lo.Cmp(bigRat(a.Lo)) < 0 || hi.Cmp(bigRat(a.Hi)) > 0 || new(big.Rat).Sub(hi, lo).Cmp(power(-min(n, 256))) > 0 || alg.Cmp(got, u.all[u.ps[i]]) != 0 {
					t.Fatal(u, a, n, got)
				}
			}
		}
	})
}

// rationals are the places of the roots of r that are fractions of numbers up to top.
func rationals(r row, top int64) []place {
	var out []place
	for m := int64(1); m <= top; m++ {
		for n := -top; n <= top; n++ {
			if x := big.NewRat(n, m); x.Denom().Int64() == m && r.at(x).Sign() == 0 {
				out = append(out, placeOf(x))
			}
		}
	}
	return out
}

// TestRationalTried holds Rational against all fractions that the outer coefficients let be roots.
func TestRationalTried(t *testing.T) {
	d := draw(13)
	for i := range 80 {
		p := pgcd.Square(polyOf(d.few(2 + i%3).times(d.few(2 + i%2))))
		if p[0].Zero() {
			continue
		}
		r := rowOf(p)
		fractions := rationals(r, 81)
		for _, a := range rootsOf(t, p) {
			want, c := api.Rat{}, known{r, fractions}
			if x, ok := c.number(bigRat(a.Lo), bigRat(a.Hi)); ok {
				at, _ := rootOf(x.at)
				want = ratOf(at)
			}
			if got, ok := alg.Rational(a); ok != (len(want.D.L) > 0) || !sameRat(got, want) {
				t.Fatal(a, got, ok, want)
			}
		}
	}
}
