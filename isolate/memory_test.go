package isolate_test

import (
	"math/big"
	"slices"
	"testing"

	"orrery/api"
	"orrery/isolate"
)

// input is what the calls are given: a polynomial that is not 0, and two times.
type input struct {
	p    api.Poly
	a, b api.Rat
}

// answer is what they return: numbers, how many of them each call has, and what Valid says.
type answer struct {
	algs   []api.Alg
	counts []int
	valid  []bool
}

func (a *answer) add(l ...api.Alg) {
	a.algs = append(a.algs, l...)
	a.counts = append(a.counts, len(l))
}

// run calls every function of the package.
func run(t *testing.T, s input) answer {
	t.Helper()
	var out answer
	out.add(rootsOf(t, s.p)...)
	for _, at := range []api.Rat{s.a, s.b} {
		if a, ok := isolate.First(s.p, at); ok {
			out.add(a)
		} else {
			out.add()
		}
	}
	out.add(isolate.Within(s.p, s.a, s.b)...)
	out.add(isolate.Within(s.p, s.b, s.a)...)
	for _, a := range []api.Alg{{P: s.p, Lo: s.a, Hi: s.b}, {P: s.p, Lo: s.b, Hi: s.a}, {P: s.p, Lo: s.b, Hi: s.b}} {
		out.valid = append(out.valid, isolate.Valid(a))
	}
	return out
}

func (a answer) is(b answer) bool {
	return equal(a.algs, b.algs) && slices.Equal(a.counts, b.counts) && slices.Equal(a.valid, b.valid)
}

// samples are inputs that reach every branch of the functions.
func samples() []input {
	var out []input
	for _, p := range []api.Poly{
		raw(1), raw(-6), raw(4, -6), raw(-2, 0, 1), raw(8, 24, 18), raw(-2, 5, -3, -1, 1), raw(0, 1, 0, 1), raw(0, 0, 0, -5), raw(1, -9, 0, 8), raw(-1, 1),
		{{L: []uint32{all, 7}}, {Neg: true, L: []uint32{0, 0, 1}}, {}, {Neg: true, L: []uint32{1, all}}},
	} {
		for _, a := range []api.Rat{fraction(0, 1), fraction(-1, 2), fraction(2, 3), fraction(-7, 1)} {
			out = append(out, input{p, a, fraction(1, 1)}, input{p, a, a})
		}
	}
	return out
}

// guardedInt is a within a longer memory.
func guardedInt(a api.Int) api.Int {
	memory := append(slices.Clone(a.L), all, 77, 1, all)
	return api.Int{Neg: a.Neg, L: memory[:len(a.L)]}
}

func guarded(s input) input {
	var memory api.Poly
	for _, x := range s.p {
		memory = append(memory, guardedInt(x))
	}
	for _, x := range raw(5, 0, -7) {
		memory = append(memory, guardedInt(x))
	}
	return input{memory[:len(s.p)], api.Rat{Int: guardedInt(s.a.Int), D: guardedInt(s.a.D)}, api.Rat{Int: guardedInt(s.b.Int), D: guardedInt(s.b.D)}}
}

// numbers are all integers of an input, also those beyond the polynomial's length.
func (s input) numbers() []api.Int {
	return append(slices.Clone(s.p[:cap(s.p)]), s.a.Int, s.a.D, s.b.Int, s.b.D)
}

// intact tells whether the memory of what guarded made for s is still as it was, so far as guarded wrote it.
func intact(s, now input) bool {
	was := guarded(s).numbers()
	return len(now.p) == len(s.p) && slices.EqualFunc(now.numbers(), was, func(a, b api.Int) bool {
		if a.Neg != b.Neg || len(a.L) != len(b.L) {
			return false
		}
		n := min(cap(b.L), len(b.L)+4)
		return cap(a.L) >= n && slices.Equal(a.L[:n], b.L[:n])
	})
}

// spoilLimbs overwrites all the memory of an integer, also that beyond its length.
func spoilLimbs(a api.Int) {
	l := a.L[:cap(a.L)]
	for i := range l {
		l[i] = 0xdeadbeef
	}
}

// integers are all integers of a number.
func integers(a api.Alg) []api.Int {
	return append(slices.Clone(a.P), a.Lo.Int, a.Lo.D, a.Hi.Int, a.Hi.D)
}

// spoil overwrites all the memory of a number.
func spoil(a api.Alg) {
	for _, x := range integers(a) {
		spoilLimbs(x)
	}
	for i := range a.P[:cap(a.P)] {
		a.P[:cap(a.P)][i] = api.Int{Neg: true, L: []uint32{0xdeadbeef}}
	}
}

func copied(l []api.Int) []api.Int {
	var out []api.Int
	for _, x := range l {
		out = append(out, api.Int{Neg: x.Neg, L: slices.Clone(x.L)})
	}
	return out
}

// TestArguments: they are not modified, and memory beyond their length is neither read nor written.
func TestArguments(t *testing.T) {
	for _, s := range samples() {
		want := run(t, s)
		given := guarded(s)
		if got := run(t, given); !got.is(want) {
			t.Error(s, got, want)
		}
		if !intact(s, given) {
			t.Error(s, given)
		}
	}
}

// TestResultsAreNew: no two lists of the results share memory, within one call or between calls, nor does one share it with an argument, or with what later calls return.
func TestResultsAreNew(t *testing.T) {
	for _, s := range samples() {
		given := guarded(s)
		want := run(t, s)
		first := run(t, given)
		for i, a := range first.algs {
			parts := integers(a)
			for k, x := range parts {
				kept := copied(parts[k+1:])
				spoilLimbs(x)
				if !same(kept, parts[k+1:]) {
					t.Error(s, "two numbers share memory")
				}
			}
			spoil(a)
			if !equal(first.algs[i+1:], want.algs[i+1:]) {
				t.Error(s, "two results share memory")
			}
		}
		if !intact(s, given) {
			t.Error(s, "a result shares memory with an argument")
		}
		if got := run(t, given); !got.is(want) {
			t.Error(s, got, want)
		}
	}
}

// TestArgumentsAreNotKept: what becomes of an argument later is nothing to a result.
func TestArgumentsAreNotKept(t *testing.T) {
	for _, s := range samples() {
		want := run(t, s)
		given := guarded(s)
		got := run(t, given)
		for _, x := range given.numbers() {
			spoilLimbs(x)
		}
		clear(given.p[:cap(given.p)])
		if !got.is(want) {
			t.Error(s, got, want)
		}
	}
}

// wider is a with limbs on top, which are 0; a 0 says that it is below 0.
func wider(a api.Int, limbs []uint32) api.Int {
	return api.Int{Neg: a.Neg || len(a.L) == 0, L: append(append([]uint32{}, a.L...), limbs...)}
}

// forms are a as it stands and as it may be passed too: not in lowest terms, both signs turned, with zero limbs, with a D of 0.
func forms(a api.Rat) []api.Rat {
	out := []api.Rat{a}
	for _, n := range []int64{2, -1, -6} {
		top, under := new(big.Int).Mul(big.NewInt(n), bigOf(a.Int)), new(big.Int).Mul(big.NewInt(n), bigOf(a.D))
		out = append(out, api.Rat{Int: wider(intOf(top), []uint32{0}), D: wider(intOf(under), []uint32{0, 0})})
	}
	if sameInt(a.D, raw(1)[0]) {
		for _, d := range noughts() {
			out = append(out, api.Rat{Int: a.Int, D: d})
		}
	}
	return out
}

// TestForms: nil and an empty list are equivalent, and so are the normal form of a number or polynomial and every other one.
func TestForms(t *testing.T) {
	for _, s := range samples() {
		want := run(t, s)
		for _, top := range []api.Poly{nil, {{}}, noughts()} {
			for _, limbs := range [][]uint32{{}, {0}, {0, 0, 0}} {
				p := api.Poly{}
				for _, x := range s.p {
					p = append(p, wider(x, limbs))
				}
				if got := run(t, input{append(p, top...), s.a, s.b}); !got.is(want) {
					t.Error(s, p, got, want)
				}
			}
		}
		for _, a := range forms(s.a) {
			for _, b := range forms(s.b) {
				if got := run(t, input{s.p, a, b}); !got.is(want) {
					t.Error(s, a, b, got, want)
				}
			}
		}
	}
}

// TestOrderOfCalls: an answer does not depend on earlier calls.
func TestOrderOfCalls(t *testing.T) {
	var want []answer
	for _, s := range samples() {
		want = append(want, run(t, s))
	}
	for i, s := range slices.Backward(samples()) {
		if got := run(t, s); !got.is(want[i]) {
			t.Error(s, got, want[i])
		}
	}
}
