package curve_test

import (
	"math/big"
	"slices"
	"testing"

	"orrery/api"
	"orrery/curve"
)

// input is what the calls are given: two curves and a time.
type input struct {
	a, b api.Curve
	t    api.Rat
}

// answer is what they return.
type answer struct {
	curves []api.Curve
	rats   []api.Rat
	told   []int
}

// run calls every function of the package that is given lists.
func run(s input) answer {
	var out answer
	made, err := curve.Make(s.a.X, s.b.Y, s.t.D)
	x, y := curve.At(s.a, s.t)
	out.curves = []api.Curve{made, curve.Of(s.a.X, s.a.Y), curve.Of(s.b.X, s.b.X), curve.Rebase(s.a.X, s.a.Y, s.t), curve.Rebase(s.b.Y, s.a.X, s.t)}
	out.rats = []api.Rat{x, y}
	out.told = []int{int(err), curve.Deg(s.a), curve.Deg(s.b)}
	for _, same := range []bool{curve.Same(s.a, s.b), curve.Same(s.b, s.a), curve.Same(s.a, s.a)} {
		if same {
			out.told = append(out.told, 1)
		} else {
			out.told = append(out.told, 0)
		}
	}
	return out
}

func (a answer) is(b answer) bool {
	return slices.EqualFunc(a.curves, b.curves, sameCurve) && slices.EqualFunc(a.rats, b.rats, sameRat) && slices.Equal(a.told, b.told)
}

// samples are inputs that reach every branch of the functions.
func samples() []input {
	curves := []api.Curve{
		{D: one(1)}, {X: raw(3), Y: raw(-2), D: one(1)}, {X: raw(0, 2), Y: raw(4, 0, -6), D: one(3)}, {X: raw(1, -1, 0, 5), D: one(8)},
		{X: api.Poly{{Neg: true, L: []uint32{all, 7}}, {}, {L: []uint32{1, all}}}, Y: raw(0, 6), D: api.Int{L: []uint32{0, 5}}},
	}
	var out []input
	for i, a := range curves {
		for k, b := range curves {
			for _, d := range []int64{1, 2, 5} {
				out = append(out, input{a, b, ratOf(big.NewRat(int64(2*i-k), d))})
			}
		}
	}
	return out
}

// guardedInt is a within a longer memory.
func guardedInt(a api.Int) api.Int {
	memory := append(slices.Clone(a.L), all, 77, 1, all)
	return api.Int{Neg: a.Neg, L: memory[:len(a.L)]}
}

func guardedPoly(p api.Poly) api.Poly {
	var memory api.Poly
	for _, x := range append(slices.Clone(p), raw(5, 0, -7)...) {
		memory = append(memory, guardedInt(x))
	}
	return memory[:len(p)]
}

func guardedCurve(c api.Curve) api.Curve {
	return api.Curve{X: guardedPoly(c.X), Y: guardedPoly(c.Y), D: guardedInt(c.D)}
}

func guarded(s input) input {
	return input{guardedCurve(s.a), guardedCurve(s.b), api.Rat{Int: guardedInt(s.t.Int), D: guardedInt(s.t.D)}}
}

// polys are all polynomials of an input.
func (s input) polys() []api.Poly {
	return []api.Poly{s.a.X, s.a.Y, s.b.X, s.b.Y}
}

// integers are all integers of an input, also those beyond the polynomials' lengths.
func (s input) integers() []api.Int {
	out := []api.Int{s.t.Int, s.t.D, s.a.D, s.b.D}
	for _, p := range s.polys() {
		out = append(out, p[:cap(p)]...)
	}
	return out
}

// intact tells whether the memory of what guarded made for s is still as it was, so far as guarded wrote it.
func intact(s, now input) bool {
	was := guarded(s)
	for i, p := range was.polys() {
		if len(now.polys()[i]) != len(p) {
			return false
		}
	}
	return slices.EqualFunc(now.integers(), was.integers(), func(a, b api.Int) bool {
		if a.Neg != b.Neg || len(a.L) != len(b.L) {
			return false
		}
		n := min(cap(b.L), len(b.L)+4)
		return cap(a.L) >= n && slices.Equal(a.L[:n], b.L[:n])
	})
}

// spoilLimbs overwrites all the memory of an integer, also that beyond its length.
func spoilLimbs(a api.Int) {
	l := a.L[:cap(a.L)]
	for i := range l {
		l[i] = 0xdeadbeef
	}
}

// polys are all polynomials of the results, in their order.
func (a answer) polys() []api.Poly {
	var out []api.Poly
	for _, c := range a.curves {
		out = append(out, c.X, c.Y)
	}
	return out
}

// integers are all integers of the results, in their order.
func (a answer) integers() []api.Int {
	var out []api.Int
	for _, c := range a.curves {
		out = append(append(append(out, c.X...), c.Y...), c.D)
	}
	for _, x := range a.rats {
		out = append(out, x.Int, x.D)
	}
	return out
}

// TestArguments: they are not modified, and memory beyond their length is neither read nor written.
func TestArguments(t *testing.T) {
	for _, s := range samples() {
		want := run(s)
		given := guarded(s)
		if got := run(given); !got.is(want) {
			t.Error(s, got, want)
		}
		if !intact(s, given) {
			t.Error(s, given)
		}
	}
}

// TestOneMemory: arguments may share one memory.
func TestOneMemory(t *testing.T) {
	for _, s := range samples() {
		p := s.a.X
		one := input{api.Curve{X: p, Y: p, D: s.a.D}, api.Curve{X: p, Y: p, D: s.a.D}, api.Rat{Int: s.a.D, D: s.a.D}}
		copied := guarded(one)
		want := run(copied)
		if got := run(one); !got.is(want) || !intact(one, copied) {
			t.Error(s, got, want)
		}
	}
}

// TestResultsAreNew: no two lists of the results share memory, within one call or between calls, nor does one share it with an argument, or with what later calls return.
func TestResultsAreNew(t *testing.T) {
	for _, s := range samples() {
		given := guarded(s)
		want := run(s)
		first := run(given)
		l, kept := first.integers(), want.integers()
		for i, x := range l {
			spoilLimbs(x)
			if !slices.EqualFunc(l[i+1:], kept[i+1:], sameInt) {
				t.Error(s, "two numbers share memory")
			}
		}
		polys := first.polys()
		for i, p := range polys {
			clear(p[:cap(p)])
			for _, q := range polys[i+1:] {
				if len(q) > 0 && len(q[len(q)-1].L) == 0 {
					t.Error(s, "two polynomials share memory")
				}
			}
		}
		if !intact(s, given) {
			t.Error(s, "a result shares memory with an argument")
		}
		if got := run(given); !got.is(want) {
			t.Error(s, got, want)
		}
	}
}

// TestArgumentsAreNotKept: what becomes of an argument later is nothing to a result, nor to later calls.
func TestArgumentsAreNotKept(t *testing.T) {
	for _, s := range samples() {
		want := run(s)
		given := guarded(s)
		got := run(given)
		for _, x := range given.integers() {
			spoilLimbs(x)
		}
		for _, p := range given.polys() {
			clear(p[:cap(p)])
		}
		if !got.is(want) || !run(s).is(want) {
			t.Error(s, got, want)
		}
	}
}

// wider is a with limbs on top, which are 0; a 0 says that it is below 0.
func wider(a api.Int, limbs int) api.Int {
	return api.Int{Neg: a.Neg || len(a.L) == 0, L: append(slices.Clone(a.L), make([]uint32, limbs)...)}
}

func formPoly(p api.Poly, i int) api.Poly {
	out := api.Poly{}
	for _, x := range p {
		out = append(out, wider(x, i%3))
	}
	return append(out, []api.Poly{nil, {{}}, noughts()}[i%3]...)
}

// factor is the number by which the i-th form is extended.
func factor(i int) *big.Int {
	return big.NewInt([]int64{1, 2, -1, -6}[i%4])
}

func extended(a api.Int, i int) api.Int {
	return intOf(new(big.Int).Mul(factor(i), bigOf(a)))
}

// formCurve is c in the i-th of several forms in which it may be passed: as it stands, not in lowest terms, with all signs turned, with zero limbs and coefficients, with a D of 0.
func formCurve(c api.Curve, i int) api.Curve {
	if n := noughts(); i%5 == 4 && sameInt(c.D, one(1)) {
		return api.Curve{X: formPoly(c.X, i), Y: formPoly(c.Y, i+1), D: n[i%len(n)]}
	}
	out := api.Curve{D: wider(extended(c.D, i), i%2)}
	for _, x := range c.X {
		out.X = append(out.X, extended(x, i))
	}
	for _, y := range c.Y {
		out.Y = append(out.Y, extended(y, i))
	}
	return api.Curve{X: formPoly(out.X, i+2), Y: formPoly(out.Y, i), D: out.D}
}

// formRat is a in the i-th of such forms.
func formRat(a api.Rat, i int) api.Rat {
	if n := noughts(); i%5 == 4 && sameInt(a.D, one(1)) {
		return api.Rat{Int: wider(a.Int, i%3), D: n[i%len(n)]}
	}
	return api.Rat{Int: wider(extended(a.Int, i), i%3), D: wider(extended(a.D, i), i%2)}
}

// TestForms: nil and an empty list are equivalent, and so are the normal form of a curve, polynomial or number and every other one.
func TestForms(t *testing.T) {
	for _, s := range samples() {
		x, y := curve.At(s.a, s.t)
		same, deg := curve.Same(s.a, s.b), curve.Deg(s.a)
		based, of := curve.Rebase(s.a.X, s.b.Y, s.t), curve.Of(s.a.X, s.b.Y)
		made, _ := curve.Make(s.a.X, s.b.Y, s.a.D)
		for i := range 20 {
			a, b, at := formCurve(s.a, i), formCurve(s.b, i+3), formRat(s.t, i+1)
			gotX, gotY := curve.At(a, at)
			if !sameRat(gotX, x) || !sameRat(gotY, y) || curve.Same(a, b) != same || curve.Deg(a) != deg {
				t.Error(s, a, b, at)
			}
			p, q := formPoly(s.a.X, i), formPoly(s.b.Y, i+1)
			got, err := curve.Make(p, q, wider(s.a.D, i%3))
			if err != api.OK || !sameCurve(got, made) || !sameCurve(curve.Of(p, q), of) || !sameCurve(curve.Rebase(p, q, at), based) {
				t.Error(s, p, q, at, got, err)
			}
		}
	}
}

// TestOrderOfCalls: an answer does not depend on earlier calls.
func TestOrderOfCalls(t *testing.T) {
	var want []answer
	for _, s := range samples() {
		want = append(want, run(s))
	}
	for i, s := range slices.Backward(samples()) {
		if got := run(s); !got.is(want[i]) {
			t.Error(s, got, want[i])
		}
	}
}
