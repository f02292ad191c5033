package cert_test

import (
	"math/big"
	"slices"
	"testing"

	"orrery/alg"
	"orrery/api"
	"orrery/cert"
)

// input is what the calls are given: four points, certificates and a time.
type input struct {
	points []api.Point
	certs  []api.Cert
	at     api.Alg
}

// answer is what they return.
type answer struct {
	certs  []api.Cert
	events []api.Event
	algs   []api.Alg
	told   []bool
	errs   []api.Errno
}

// run calls every function of the package.
func run(s input) answer {
	var out answer
	for kind := range 7 {
		for n := range len(s.points) + 1 {
			c, err := cert.Make(kind, s.at, s.points[:n]...)
			out.certs, out.errs = append(out.certs, c), append(out.errs, err)
		}
	}
	for i, c := range s.certs {
		a, ok := cert.Fails(c, s.at)
		e, also := cert.Event(c, s.at)
		out.algs, out.events = append(out.algs, a), append(out.events, e)
		out.told = append(out.told, ok, also, cert.Holds(c, s.at), cert.Less(c.Tag, s.certs[0].Tag))
		out.certs = append(out.certs, cert.Sort(s.certs[:i]...)...)
	}
	out.certs = append(out.certs, cert.Sort(s.certs...)...)
	return out
}

func (a answer) is(b answer) bool {
	return slices.EqualFunc(a.certs, b.certs, sameCert) && slices.EqualFunc(a.events, b.events, sameEvent) && slices.EqualFunc(a.algs, b.algs, sameAlg) && slices.Equal(a.told, b.told) && slices.Equal(a.errs, b.errs)
}

// polys are all polynomials of an answer.
func (a answer) polys() []api.Poly {
	var out []api.Poly
	for _, c := range a.certs {
		out = append(out, c.P)
	}
	for _, e := range a.events {
		out = append(out, e.At.P)
	}
	for _, x := range a.algs {
		out = append(out, x.P)
	}
	return out
}

// integers are all integers of an answer.
func (a answer) integers() []api.Int {
	out := slices.Concat(a.polys()...)
	for _, e := range a.events {
		out = append(out, e.At.Lo.Int, e.At.Lo.D, e.At.Hi.Int, e.At.Hi.D)
	}
	for _, x := range a.algs {
		out = append(out, x.Lo.Int, x.Lo.D, x.Hi.Int, x.Hi.D)
	}
	return out
}

// samples are inputs that reach every branch of the functions.
func samples() []input {
	curves := []api.Curve{
		{D: one(1)}, {X: raw(3), Y: raw(-2), D: one(1)}, {X: raw(0, 2), Y: raw(4, 0, -6), D: one(3)}, {X: raw(1, -1, 5), D: one(8)}, {X: raw(3), Y: raw(2), D: one(1)},
		{X: api.Poly{{Neg: true, L: []uint32{all, 7}}, {}, {L: []uint32{1, all}}}, Y: raw(0, 6), D: api.Int{L: []uint32{0, 5}}},
	}
	times := []api.Alg{alg.Of(fraction(0, 1)), alg.Of(fraction(-7, 3)), {P: raw(-2, 0, 1), Lo: fraction(1, 1), Hi: fraction(3, 2)}}
	polys := []api.Poly{nil, raw(0, 1), raw(4), raw(-6, 0, 2), raw(0, 0, 0, 5), raw(-7, 2), raw(0, 0, 1, 1), {{L: []uint32{all, 7}}, {}, {Neg: true, L: []uint32{1, all}}}}
	var out []input
	for i := range 24 {
		s := input{at: times[i%3]}
		for k := range 4 {
			s.points = append(s.points, api.Point{Curve: curves[(i+i/(6-k)*k)%len(curves)], Id: i + k})
		}
		for k := range i % 6 {
			s.certs = append(s.certs, api.Cert{Tag: api.Tag{Kind: k * k % 5, Ids: [4]int{i, k % 2}}, P: polys[(i+3*k)%len(polys)], Want: 1 - i%4})
		}
		out = append(out, s)
	}
	return out
}

// guardedInt is a within a longer memory.
func guardedInt(a api.Int) api.Int {
	memory := append(slices.Clone(a.L), all, 77, 1, all)
	return api.Int{Neg: a.Neg, L: memory[:len(a.L)]}
}

func guardedPoly(p api.Poly) api.Poly {
	var memory api.Poly
	for _, x := range append(slices.Clone(p), raw(5, 0, -7)...) {
		memory = append(memory, guardedInt(x))
	}
	return memory[:len(p)]
}

func guardedCurve(c api.Curve) api.Curve {
	return api.Curve{X: guardedPoly(c.X), Y: guardedPoly(c.Y), D: guardedInt(c.D)}
}

func guardedRat(a api.Rat) api.Rat {
	return api.Rat{Int: guardedInt(a.Int), D: guardedInt(a.D)}
}

func guarded(s input) input {
	out := input{at: api.Alg{P: guardedPoly(s.at.P), Lo: guardedRat(s.at.Lo), Hi: guardedRat(s.at.Hi)}}
	for _, p := range append(slices.Clone(s.points), beyond()) {
		out.points = append(out.points, api.Point{Curve: guardedCurve(p.Curve), Id: p.Id})
	}
	for _, c := range append(slices.Clone(s.certs), api.Cert{P: raw(-1, 1), Want: 7}) {
		out.certs = append(out.certs, api.Cert{Tag: c.Tag, P: guardedPoly(c.P), Want: c.Want})
	}
	out.points, out.certs = out.points[:len(s.points)], out.certs[:len(s.certs)]
	return out
}

// beyond is a point that stands behind those that are passed.
func beyond() api.Point {
	return still(99, 4, 4)
}

// polys are all polynomials of an input, also those behind what is passed.
func (s input) polys() []api.Poly {
	out := []api.Poly{s.at.P}
	for _, p := range s.points[:len(s.points)+1] {
		out = append(out, p.X, p.Y)
	}
	for _, c := range s.certs[:len(s.certs)+1] {
		out = append(out, c.P)
	}
	return out
}

// integers are all integers of an input, also those beyond the polynomials' lengths.
func (s input) integers() []api.Int {
	out := []api.Int{s.at.Lo.Int, s.at.Lo.D, s.at.Hi.Int, s.at.Hi.D}
	for _, p := range s.points[:len(s.points)+1] {
		out = append(out, p.D)
	}
	for _, p := range s.polys() {
		out = append(out, p[:cap(p)]...)
	}
	return out
}

// marks are all other numbers of an input, also those behind what is passed.
func (s input) marks() []int {
	out := []int{len(s.points), len(s.certs)}
	for _, p := range s.points[:len(s.points)+1] {
		out = append(out, p.Id)
	}
	for _, c := range s.certs[:len(s.certs)+1] {
		out = append(append(out, numbersOf(c.Tag)...), c.Want)
	}
	return out
}

// intact tells whether the memory of what guarded made for s is still as it was, so far as guarded wrote it.
func intact(s, now input) bool {
	was := guarded(s)
	if !slices.Equal(now.marks(), was.marks()) {
		return false
	}
	for i, p := range was.polys() {
		if len(now.polys()[i]) != len(p) {
			return false
		}
	}
	return slices.EqualFunc(now.integers(), was.integers(), func(a, b api.Int) bool {
		if a.Neg != b.Neg || len(a.L) != len(b.L) {
			return false
		}
		n := min(cap(b.L), len(b.L)+4)
		return cap(a.L) >= n && slices.Equal(a.L[:n], b.L[:n])
	})
}

// spoilLimbs overwrites all the memory of an integer, also that beyond its length.
func spoilLimbs(a api.Int) {
	l := a.L[:cap(a.L)]
	for i := range l {
		l[i] = 0xdeadbeef
	}
}

// TestArguments: they are not modified, and memory beyond their length is neither read nor written.
func TestArguments(t *testing.T) {
	for _, s := range samples() {
		want := run(s)
		given := guarded(s)
		if got := run(given); !got.is(want) {
			t.Error(s, got, want)
		}
		if !intact(s, given) {
			t.Error(s, given)
		}
	}
}

// TestOneMemory: arguments may share one memory.
func TestOneMemory(t *testing.T) {
	for _, s := range samples() {
		p, d := s.points[0].X, s.points[0].D
		c := api.Curve{X: p, Y: p, D: d}
		one := input{at: s.at}
		for i, x := range []api.Curve{c, c, {X: p, D: d}, {Y: p, D: d}} {
			one.points = append(one.points, api.Point{Curve: x, Id: i})
		}
		for i := range 4 {
			one.certs = append(one.certs, api.Cert{Tag: api.Tag{Kind: i * 3 % 4}, P: p})
		}
		copied := guarded(one)
		want := run(copied)
		if got := run(guarded(one)); !got.is(want) {
			t.Error(s, got, want)
		}
		if got := run(one); !got.is(want) || one.certs[1].Kind != 3 {
			t.Error(s, got, want)
		}
	}
}

// TestResultsAreNew: no two lists of the results share memory, within one call or between calls, nor does one share it with an argument, or with what later calls return.
func TestResultsAreNew(t *testing.T) {
	for _, s := range samples() {
		given := guarded(s)
		want := run(s)
		first := run(given)
		l, kept := first.integers(), want.integers()
		for i, x := range l {
			spoilLimbs(x)
			if !slices.EqualFunc(l[i+1:], kept[i+1:], sameInt) {
				t.Error(s, "two numbers share memory")
			}
		}
		for i, p := range first.polys() {
			clear(p[:cap(p)])
			for _, q := range first.polys()[i+1:] {
				if len(q) > 0 && len(q[len(q)-1].L) == 0 {
					t.Error(s, "two polynomials share memory")
				}
			}
		}
		if !intact(s, given) {
			t.Error(s, "a result shares memory with an argument")
		}
		if got := run(given); !got.is(want) {
			t.Error(s, got, want)
		}
	}
}

// TestListsAreNew: the list that Sort returns is neither its argument nor one that it returned before.
func TestListsAreNew(t *testing.T) {
	for _, s := range samples() {
		given := guarded(s)
		got, other := cert.Sort(given.certs...), cert.Sort(given.certs...)
		kept := slices.Clone(other)
		clear(got[:cap(got)])
		if !intact(s, given) || !slices.EqualFunc(other, kept, sameCert) {
			t.Error(s, given, other)
		}
	}
}

// TestArgumentsAreNotKept: what becomes of an argument later is nothing to a result, nor to later calls.
func TestArgumentsAreNotKept(t *testing.T) {
	for _, s := range samples() {
		want := run(s)
		given := guarded(s)
		got := run(given)
		for _, x := range given.integers() {
			spoilLimbs(x)
		}
		for _, p := range given.polys() {
			clear(p[:cap(p)])
		}
		clear(given.points[:cap(given.points)])
		clear(given.certs[:cap(given.certs)])
		if !got.is(want) || !run(s).is(want) {
			t.Error(s, got, want)
		}
	}
}

// wider is a with limbs on top, which are 0; a 0 says that it is below 0.
func wider(a api.Int, limbs int) api.Int {
	return api.Int{Neg: a.Neg || len(a.L) == 0, L: append(slices.Clone(a.L), make([]uint32, limbs)...)}
}

func formPoly(p api.Poly, i int) api.Poly {
	out := api.Poly{}
	for _, x := range p {
		out = append(out, wider(x, i%3))
	}
	return append(out, []api.Poly{nil, {{}}, noughts()}[i%3]...)
}

// factor is the number by which the i-th form is extended.
func factor(i int) *big.Int {
	return big.NewInt([]int64{1, 2, -1, -6}[i%4])
}

func extended(a api.Int, i int) api.Int {
	return intOf(new(big.Int).Mul(factor(i), bigOf(a)))
}

// formCurve is c in the i-th of several forms in which it may be passed: as it stands, not in lowest terms, with all signs turned, with zero limbs and coefficients, with a D of 0.
func formCurve(c api.Curve, i int) api.Curve {
	if n := noughts(); i%5 == 4 && sameInt(c.D, one(1)) {
		return api.Curve{X: formPoly(c.X, i), Y: formPoly(c.Y, i+1), D: n[i%len(n)]}
	}
	out := api.Curve{D: wider(extended(c.D, i), i%2)}
	for _, x := range c.X {
		out.X = append(out.X, extended(x, i))
	}
	for _, y := range c.Y {
		out.Y = append(out.Y, extended(y, i))
	}
	return api.Curve{X: formPoly(out.X, i+2), Y: formPoly(out.Y, i), D: out.D}
}

// formRat is a in the i-th of such forms.
func formRat(a api.Rat, i int) api.Rat {
	if n := noughts(); i%5 == 4 && sameInt(a.D, one(1)) {
		return api.Rat{Int: wider(a.Int, i%3), D: n[i%len(n)]}
	}
	return api.Rat{Int: wider(extended(a.Int, i), i%3), D: wider(extended(a.D, i), i%2)}
}

// TestForms: nil and an empty list are equivalent, and so are the normal form of a curve, polynomial or number and every other one.
func TestForms(t *testing.T) {
	for _, s := range samples() {
		want := run(s)
		for i := range 20 {
			form := input{at: api.Alg{P: formPoly(s.at.P, i), Lo: formRat(s.at.Lo, i), Hi: formRat(s.at.Hi, i+1)}}
			for k, p := range s.points {
				form.points = append(form.points, api.Point{Curve: formCurve(p.Curve, i+k), Id: p.Id})
			}
			for k, c := range s.certs {
				form.certs = append(form.certs, api.Cert{Tag: c.Tag, P: formPoly(c.P, i+k), Want: c.Want})
			}
			if got := run(form); !got.is(want) {
				t.Error(s, form, got, want)
			}
		}
	}
}

// TestOrderOfCalls: an answer does not depend on earlier calls.
func TestOrderOfCalls(t *testing.T) {
	var want []answer
	for _, s := range samples() {
		want = append(want, run(s))
	}
	for i, s := range slices.Backward(samples()) {
		if got := run(s); !got.is(want[i]) {
			t.Error(s, got, want[i])
		}
	}
}
