package poly_test

import (
	"slices"
	"testing"

	"orrery/api"
	"orrery/poly"
)

// input is what a call is given: two polynomials, and two integers, which are also a rational number.
type input struct {
	a, b api.Poly
	n, d api.Int
}

func (s input) rat() api.Rat {
	return api.Rat{Int: s.n, D: s.d}
}

// call is a function of the package: the lists of integers that it returns.
type call struct {
	name string
	run  func(s input) []api.Poly
}

// number is an int as a list of integers.
func number(n int) api.Poly {
	return raw(int64(n))
}

// calls are all functions that are given lists.
func calls() []call {
	one := func(f func(a api.Poly) api.Poly) func(s input) []api.Poly {
		return func(s input) []api.Poly { return []api.Poly{f(s.a)} }
	}
	two := func(f func(a, b api.Poly) api.Poly) func(s input) []api.Poly {
		return func(s input) []api.Poly { return []api.Poly{f(s.a, s.b)} }
	}
	some := func(f func(l ...api.Poly) api.Poly) func(s input) []api.Poly {
		return func(s input) []api.Poly { return []api.Poly{f(s.a, s.b, s.a), f(s.a), f(s.b, s.a), f()} }
	}
	return []call{
		{"Norm", one(poly.Norm)},
		{"Same", func(s input) []api.Poly {
			if poly.Same(s.a, s.b) {
				return []api.Poly{number(1)}
			}
			return []api.Poly{number(0)}
		}},
		{"Add", two(poly.Add)},
		{"Sub", two(poly.Sub)},
		{"Neg", one(poly.Neg)},
		{"Mul", two(poly.Mul)},
		{"Scale", func(s input) []api.Poly { return []api.Poly{poly.Scale(s.a, s.n)} }},
		{"Sum", some(poly.Sum)},
		{"Product", some(poly.Product)},
		{"Derive", one(poly.Derive)},
		{"At", func(s input) []api.Poly { x := poly.At(s.a, s.rat()); return []api.Poly{{x.Int, x.D}} }},
		{"Sign", func(s input) []api.Poly { return []api.Poly{number(poly.Sign(s.a, s.rat()))} }},
		{"Lead", func(s input) []api.Poly { return []api.Poly{{poly.Lead(s.a)}} }},
		{"Ends", func(s input) []api.Poly {
			minus, plus := poly.Ends(s.a)
			return []api.Poly{number(minus), number(plus)}
		}},
		{"Move", func(s input) []api.Poly { p, _ := poly.Move(s.a, s.n, s.d); return []api.Poly{p} }},
	}
}

// samples are the inputs that reach every branch of the functions.
func samples() []input {
	few := []api.Poly{nil, {{Neg: true}, {L: []uint32{0}}}, raw(1), raw(-3, 0, 1), {{Neg: true, L: []uint32{6, 0}}, {Neg: true, L: []uint32{0}}, {L: []uint32{all, all, 0}}, {L: []uint32{0, 0}}}}
	var out []input
	for _, a := range few {
		for _, b := range few {
			for _, n := range []api.Int{{Neg: true, L: []uint32{0}}, {L: []uint32{1}}, {Neg: true, L: []uint32{6, 0}}} {
				for _, d := range []api.Int{{}, {L: []uint32{1, 0}}, {Neg: true, L: []uint32{4, 0}}} {
					out = append(out, input{a, b, n, d})
				}
			}
		}
	}
	return out
}

// bareInt is a in memory that ends with it, bareList a list likewise.
func bareInt(a api.Int) api.Int {
	return api.Int{Neg: a.Neg, L: slices.Clip(slices.Clone(a.L))}
}

func bareList(p api.Poly) api.Poly {
	out := make(api.Poly, len(p))
	for i, a := range p {
		out[i] = bareInt(a)
	}
	return out
}

func bare(s input) input {
	return input{bareList(s.a), bareList(s.b), bareInt(s.n), bareInt(s.d)}
}

// guardedInt is a within a longer memory.
func guardedInt(a api.Int) api.Int {
	memory := append(slices.Clone(a.L), all, 77, 1, all)
	return api.Int{Neg: a.Neg, L: memory[:len(a.L)]}
}

func guardedList(p api.Poly) api.Poly {
	var memory api.Poly
	for _, a := range p {
		memory = append(memory, guardedInt(a))
	}
	for _, n := range []int64{5, 0, -7} {
		memory = append(memory, guardedInt(raw(n)[0]))
	}
	return memory[:len(p)]
}

func guarded(s input) input {
	return input{guardedList(s.a), guardedList(s.b), guardedInt(s.n), guardedInt(s.d)}
}

// wholeInt and wholeList are all the memory, also that beyond the length.
func wholeInt(a api.Int) api.Int {
	return api.Int{Neg: a.Neg, L: a.L[:cap(a.L)]}
}

func wholeList(p api.Poly) api.Poly {
	var out api.Poly
	for _, a := range p[:cap(p)] {
		out = append(out, wholeInt(a))
	}
	return out
}

// intact tells whether the memory of what guarded made for s is still as it was, so far as guarded wrote it.
func intact(s, now input) bool {
	was := guarded(s)
	return starts(now.a, was.a, 3) && starts(now.b, was.b, 3) && startsInt(now.n, was.n) && startsInt(now.d, was.d)
}

func starts(now, was api.Poly, beyond int) bool {
	if len(now) != len(was) {
		return false
	}
	n := len(was) + beyond
	return slices.EqualFunc(now[:n], was[:n], startsInt)
}

func startsInt(now, was api.Int) bool {
	n := len(was.L) + 4
	return now.Neg == was.Neg && len(now.L) == len(was.L) && slices.Equal(now.L[:n], was.L[:n])
}

func equal(a, b []api.Poly) bool {
	return slices.EqualFunc(a, b, same)
}

func copied(l []api.Poly) []api.Poly {
	var out []api.Poly
	for _, p := range l {
		out = append(out, bareList(p))
	}
	return out
}

// spoil overwrites all the memory of a list, also that beyond its length: first the limbs of its integers, then the integers.
func spoil(p api.Poly) {
	for _, a := range wholeList(p) {
		for i := range a.L {
			a.L[i] = 0xdeadbeef
		}
	}
	all := p[:cap(p)]
	for i := range all {
		all[i] = api.Int{Neg: true, L: []uint32{0xdeadbeef}}
	}
}

// TestArguments: they are not modified, and memory beyond their length is neither read nor written.
func TestArguments(t *testing.T) {
	for _, c := range calls() {
		for _, s := range samples() {
			want := copied(c.run(bare(s)))
			given := guarded(s)
			if got := c.run(given); !equal(got, want) {
				t.Error(c.name, s, got, want)
			}
			if !intact(s, given) {
				t.Error(c.name, s, given)
			}
		}
	}
}

// TestSameArgument: both polynomials, and both numbers, may be one list.
func TestSameArgument(t *testing.T) {
	for _, c := range calls() {
		for _, s := range samples() {
			one := bare(input{s.a, nil, s.d, api.Int{}})
			one.b, one.d = one.a, one.n
			if got, want := c.run(one), c.run(bare(one)); !equal(got, want) || !same(one.a, s.a) || !sameInt(one.n, s.d) {
				t.Error(c.name, s, got, want)
			}
		}
	}
}

// TestOneMemory: the coefficients of a polynomial may be one list, and so may those and a number.
func TestOneMemory(t *testing.T) {
	for _, c := range calls() {
		for _, l := range [][]uint32{{0}, {1}, {3, 0}, {all, 7}} {
			x := api.Int{L: l}
			given := input{api.Poly{x, x, x}, api.Poly{x, x}, x, x}
			want := c.run(bare(given))
			if got := c.run(given); !equal(got, want) {
				t.Error(c.name, l, got, want)
			}
		}
	}
}

// TestResultsAreNew: no two lists of a result share memory, nor does one share it with an argument or with a later call's.
func TestResultsAreNew(t *testing.T) {
	for _, c := range calls() {
		for _, s := range samples() {
			given := guarded(s)
			first := c.run(given)
			want := copied(first)
			for i, p := range first {
				spoilOneByOne(t, c.name, p)
				spoil(p)
				if !equal(first[i+1:], want[i+1:]) {
					t.Error(c.name, s, "two results share memory")
				}
			}
			if !intact(s, given) {
				t.Error(c.name, s, "a result shares memory with an argument")
			}
			second := c.run(given)
			if !equal(second, want) {
				t.Error(c.name, s, second, want)
			}
			spoil(given.a)
			spoil(given.b)
			spoil(api.Poly{given.n, given.d})
			if !equal(second, want) {
				t.Error(c.name, s, "an argument is kept")
			}
		}
	}
}

// spoilOneByOne overwrites the limbs of one coefficient after the other, and looks whether those after it stay.
func spoilOneByOne(t *testing.T, name string, p api.Poly) {
	t.Helper()
	want := bareList(p)
	for i := range p {
		for k := range wholeInt(p[i]).L {
			p[i].L[:cap(p[i].L)][k] = 0xdeadbeef
		}
		if !same(p[i+1:], want[i+1:]) {
			t.Error(name, want, "two coefficients share memory")
		}
	}
}

// TestForms: nil and an empty list are equivalent, and so are the normal form of a polynomial or a number and every other one.
func TestForms(t *testing.T) {
	for _, c := range calls() {
		for _, s := range samples() {
			norm := input{poly.Norm(s.a), poly.Norm(s.b), intOf(bigOf(s.n)), intOf(bigOf(s.d))}
			want := c.run(norm)
			for _, top := range []api.Poly{nil, {}, {{}}, noughts()} {
				for _, limbs := range [][]uint32{{}, {0}, {0, 0, 0}} {
					wide := input{widerList(s.a, top, limbs), widerList(s.b, top, limbs), wider(s.n, limbs), wider(s.d, limbs)}
					if got := c.run(wide); !equal(got, want) {
						t.Error(c.name, wide, got, want)
					}
				}
			}
		}
	}
}

func wider(a api.Int, limbs []uint32) api.Int {
	return api.Int{Neg: a.Neg, L: append(append([]uint32{}, a.L...), limbs...)}
}

func widerList(p, top api.Poly, limbs []uint32) api.Poly {
	out := api.Poly{}
	for _, a := range p {
		out = append(out, wider(a, limbs))
	}
	return append(out, top...)
}

// TestRows: the list of a variadic call is an argument like others.
func TestRows(t *testing.T) {
	list := func() []api.Poly {
		return []api.Poly{raw(6, 1), {{Neg: true, L: []uint32{15, 0}}, {Neg: true}}, raw(0, -1), raw(9), raw(1, 1)}
	}
	for _, c := range []struct {
		name string
		run  func(l ...api.Poly) api.Poly
		want api.Poly
	}{{"Sum", poly.Sum, raw(-9)}, {"Product", poly.Product, raw(0, 90, 15)}} {
		memory := list()
		if got := c.run(memory[:3]...); !same(got, c.want) {
			t.Error(c.name, got)
		}
		if !equal(memory, list()) {
			t.Error(c.name, memory)
		}
	}
	ints := []int{1, -2, 0, 7}
	if got := poly.Of(ints[:3]...); !same(got, raw(1, -2)) || !slices.Equal(ints, []int{1, -2, 0, 7}) {
		t.Error(got, ints)
	}
}

// TestOfIsNew: two calls that are given no list share no memory.
func TestOfIsNew(t *testing.T) {
	for _, run := range []func() api.Poly{
		func() api.Poly { return poly.Of(0, 1, -5, 1<<40, 1) },
		func() api.Poly { return poly.Product() },
		func() api.Poly { return poly.Product(nil, poly.Of(1)) },
		func() api.Poly { return poly.Sum() },
	} {
		first, second := run(), run()
		want := bareList(second)
		spoilOneByOne(t, "Of", first)
		spoil(first)
		if !same(second, want) || !same(run(), want) {
			t.Error(second, want)
		}
	}
}
