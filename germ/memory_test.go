package germ_test

import (
	"math/big"
	"slices"
	"testing"

	"orrery/alg"
	"orrery/api"
	"orrery/germ"
)

// input is what the calls are given: two polynomials, a number and a time.
type input struct {
	p, q api.Poly
	a    api.Alg
	t    api.Rat
}

// answer is what they return.
type answer struct {
	algs  []api.Alg
	signs []int
}

func (a *answer) alg(x api.Alg, ok bool) {
	a.algs = append(a.algs, x)
	if ok {
		a.signs = append(a.signs, 1)
	} else {
		a.signs = append(a.signs, 0)
	}
}

// run calls every function of the package.
func run(s input) answer {
	var out answer
	l := []api.Poly{s.q, s.p, s.q}
	for _, p := range l {
		out.signs = append(out.signs, germ.After(p, s.t), germ.At(p, s.a))
		out.algs = append(out.algs, germ.Turns(p)...)
		out.alg(germ.Next(p, s.a))
	}
	out.alg(germ.First(s.a, l...))
	out.alg(germ.First(s.a, s.p))
	return out
}

func (a answer) is(b answer) bool {
	return equal(a.algs, b.algs) && slices.Equal(a.signs, b.signs)
}

// samples are inputs that reach every branch of the functions.
func samples() []input {
	numbers := []api.Alg{
		{P: raw(-2, 0, 1), Lo: fraction(0, 1), Hi: fraction(9, 1)}, {P: raw(-2, 0, 1), Lo: fraction(-3, 2), Hi: fraction(1, 3)}, {P: raw(2, -6, -1, 3), Lo: fraction(0, 1), Hi: fraction(1, 1)},
		{P: raw(-1, 3), Lo: fraction(1, 3), Hi: fraction(1, 3)}, {P: raw(0, 1), Lo: fraction(-1, 2), Hi: fraction(1, 5)}, {P: raw(-7, 1), Lo: fraction(0, 1), Hi: fraction(7, 1)},
	}
	polys := []api.Poly{
		raw(0, 0, 1), raw(-2, 5, -3, -1, 1), raw(-8, 0, 12, 0, -6, 0, 1), raw(4, 0, -2), raw(-1, 3), raw(6, -5, -5, 5, -1), {{Neg: true, L: []uint32{all, 7}}, {}, {L: []uint32{1, all}}}, raw(5), nil,
	}
	var out []input
	for i, p := range polys {
		for k, a := range numbers {
			out = append(out, input{p, polys[(i+2*k)%len(polys)], a, ratOf(big.NewRat(int64(i-2*k), 3))})
		}
	}
	return out
}

// guardedInt is a within a longer memory.
func guardedInt(a api.Int) api.Int {
	memory := append(slices.Clone(a.L), all, 77, 1, all)
	return api.Int{Neg: a.Neg, L: memory[:len(a.L)]}
}

func guardedRat(a api.Rat) api.Rat {
	return api.Rat{Int: guardedInt(a.Int), D: guardedInt(a.D)}
}

func guardedPoly(p api.Poly) api.Poly {
	var memory api.Poly
	for _, x := range append(slices.Clone(p), raw(5, 0, -7)...) {
		memory = append(memory, guardedInt(x))
	}
	return memory[:len(p)]
}

func guardedAlg(a api.Alg) api.Alg {
	return api.Alg{P: guardedPoly(a.P), Lo: guardedRat(a.Lo), Hi: guardedRat(a.Hi)}
}

func guarded(s input) input {
	return input{guardedPoly(s.p), guardedPoly(s.q), guardedAlg(s.a), guardedRat(s.t)}
}

// integers are all integers of an input, also those beyond the polynomials' lengths.
func (s input) integers() []api.Int {
	out := []api.Int{s.t.Int, s.t.D, s.a.Lo.Int, s.a.Lo.D, s.a.Hi.Int, s.a.Hi.D}
	for _, p := range []api.Poly{s.a.P, s.p, s.q} {
		out = append(out, p[:cap(p)]...)
	}
	return out
}

// intact tells whether the memory of what guarded made for s is still as it was, so far as guarded wrote it.
func intact(s, now input) bool {
	was := guarded(s)
	return len(now.a.P) == len(was.a.P) && len(now.p) == len(was.p) && len(now.q) == len(was.q) && slices.EqualFunc(now.integers(), was.integers(), func(a, b api.Int) bool {
		if a.Neg != b.Neg || len(a.L) != len(b.L) {
			return false
		}
		n := min(cap(b.L), len(b.L)+4)
		return cap(a.L) >= n && slices.Equal(a.L[:n], b.L[:n])
	})
}

// spoilLimbs overwrites all the memory of an integer, also that beyond its length.
func spoilLimbs(a api.Int) {
	l := a.L[:cap(a.L)]
	for i := range l {
		l[i] = 0xdeadbeef
	}
}

// integers are all integers of the results, in their order.
func (a answer) integers() []api.Int {
	var out []api.Int
	for _, x := range a.algs {
		out = append(append(out, x.P...), x.Lo.Int, x.Lo.D, x.Hi.Int, x.Hi.D)
	}
	return out
}

// TestArguments: they are not modified, and memory beyond their length is neither read nor written.
func TestArguments(t *testing.T) {
	for _, s := range samples() {
		want := run(s)
		given := guarded(s)
		if got := run(given); !got.is(want) {
			t.Error(s, got, want)
		}
		if !intact(s, given) {
			t.Error(s, given)
		}
	}
}

// TestListOfArguments: First leaves the list that it is given as it is, and what is beyond its length.
func TestListOfArguments(t *testing.T) {
	memory := []api.Poly{raw(-3, 1), raw(0, 0, 1), raw(-2, 1), raw(-1, 1)}
	got, ok := germ.First(alg.Of(fraction(0, 1)), memory[:3]...)
	checkNext(t, got, ok, []place{big.NewRat(4, 1)})
	if !slices.EqualFunc(memory, []api.Poly{raw(-3, 1), raw(0, 0, 1), raw(-2, 1), raw(-1, 1)}, same) {
		t.Error(memory)
	}
}

// TestResultsAreNew: no two lists of the results share memory, within one call or between calls, nor does one share it with an argument, or with what later calls return.
func TestResultsAreNew(t *testing.T) {
	for _, s := range samples() {
		given := guarded(s)
		want := run(s)
		first := run(given)
		l, kept := first.integers(), want.integers()
		for i, x := range l {
			spoilLimbs(x)
			if !slices.EqualFunc(l[i+1:], kept[i+1:], sameInt) {
				t.Error(s, "two numbers share memory")
			}
		}
		for i, a := range first.algs {
			clear(a.P[:cap(a.P)])
			for _, b := range first.algs[i+1:] {
				if len(b.P) > 0 && len(b.P[len(b.P)-1].L) == 0 {
					t.Error(s, "two polynomials share memory")
				}
			}
		}
		if !intact(s, given) {
			t.Error(s, "a result shares memory with an argument")
		}
		if got := run(given); !got.is(want) {
			t.Error(s, got, want)
		}
	}
}

// TestArgumentsAreNotKept: what becomes of an argument later is nothing to a result, nor to later calls.
func TestArgumentsAreNotKept(t *testing.T) {
	for _, s := range samples() {
		want := run(s)
		given := guarded(s)
		got := run(given)
		for _, x := range given.integers() {
			spoilLimbs(x)
		}
		for _, p := range []api.Poly{given.a.P, given.p, given.q} {
			clear(p[:cap(p)])
		}
		if !got.is(want) || !run(s).is(want) {
			t.Error(s, got, want)
		}
	}
}

// wider is a with limbs on top, which are 0; a 0 says that it is below 0.
func wider(a api.Int, limbs int) api.Int {
	return api.Int{Neg: a.Neg || len(a.L) == 0, L: append(slices.Clone(a.L), make([]uint32, limbs)...)}
}

// form is a in the i-th of several forms in which it may be passed: as it stands, not in lowest terms, with both signs turned, with zero limbs, with a D of 0.
func form(a api.Rat, i int) api.Rat {
	if n := noughts(); i%4 == 3 && sameInt(a.D, raw(1)[0]) {
		return api.Rat{Int: a.Int, D: n[i%len(n)]}
	}
	by := big.NewInt([]int64{1, 2, -1, -6}[i%4])
	top, under := new(big.Int).Mul(by, bigOf(a.Int)), new(big.Int).Mul(by, bigOf(a.D))
	return api.Rat{Int: wider(intOf(top), i%3), D: wider(intOf(under), i%2)}
}

func formPoly(p api.Poly, i int) api.Poly {
	out := api.Poly{}
	for _, x := range p {
		out = append(out, wider(x, i%3))
	}
	return append(out, []api.Poly{nil, {{}}, noughts()}[i%3]...)
}

func formAlg(a api.Alg, i int) api.Alg {
	return api.Alg{P: formPoly(a.P, i), Lo: form(a.Lo, i), Hi: form(a.Hi, i+1)}
}

// TestForms: nil and an empty list are equivalent, and so are the normal form of a number or polynomial and every other one.
func TestForms(t *testing.T) {
	for _, s := range samples() {
		want := run(s)
		for i := range 15 {
			given := input{formPoly(s.p, i+1), formPoly(s.q, i+2), formAlg(s.a, i), form(s.t, i+3)}
			if got := run(given); !got.is(want) {
				t.Error(s, given, got, want)
			}
		}
	}
}

// TestOrderOfCalls: an answer does not depend on earlier calls.
func TestOrderOfCalls(t *testing.T) {
	var want []answer
	for _, s := range samples() {
		want = append(want, run(s))
	}
	for i, s := range slices.Backward(samples()) {
		if got := run(s); !got.is(want[i]) {
			t.Error(s, got, want[i])
		}
	}
}
