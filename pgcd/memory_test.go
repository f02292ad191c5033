package pgcd_test

import (
	"slices"
	"testing"

	"orrery/api"
	"orrery/pgcd"
	"orrery/poly"
)

// input is what a call is given.
type input struct {
	a, b api.Poly
}

// call is a function of the package: the lists of integers that it returns.
type call struct {
	name string
	run  func(s input) []api.Poly
}

// truth is a bool as a list of integers.
func truth(b bool) api.Poly {
	if b {
		return raw(1)
	}
	return nil
}

// calls are all functions of the package.
func calls() []call {
	return []call{
		{"Gcd", func(s input) []api.Poly {
			return []api.Poly{pgcd.Gcd(s.a, s.b, s.a), pgcd.Gcd(s.a), pgcd.Gcd(s.b, s.a), pgcd.Gcd()}
		}},
		{"Coprime", func(s input) []api.Poly { return []api.Poly{truth(pgcd.Coprime(s.a, s.b))} }},
		{"Square", func(s input) []api.Poly { return []api.Poly{pgcd.Square(s.a)} }},
		{"Factors", func(s input) []api.Poly { return pgcd.Factors(s.a) }},
		{"Odd", func(s input) []api.Poly { return []api.Poly{pgcd.Odd(s.a)} }},
	}
}

// samples are the inputs that reach every branch of the functions.
func samples() []input {
	few := []api.Poly{
		nil, {{Neg: true}, {L: []uint32{0}}}, raw(1), raw(-6), raw(-3, 0, 1), raw(4, 6), raw(0, -1), raw(8, 24, 18, 0), raw(2, -3, 0, 1), raw(0, 0, 0, -5), raw(0, 0, 1, -4, 6, -4, 1),
		{{Neg: true, L: []uint32{6, 0}}, {Neg: true, L: []uint32{0}}, {L: []uint32{all, all, 0}}, {L: []uint32{0, 0}}},
		{{L: []uint32{all, 7}}, {Neg: true, L: []uint32{1, 0}}},
	}
	var out []input
	for _, a := range few {
		for _, b := range few {
			out = append(out, input{a, b})
		}
	}
	return out
}

// bareInt is a in memory that ends with it, bareList a list likewise.
func bareInt(a api.Int) api.Int {
	return api.Int{Neg: a.Neg, L: slices.Clip(slices.Clone(a.L))}
}

func bareList(p api.Poly) api.Poly {
	out := make(api.Poly, len(p))
	for i, a := range p {
		out[i] = bareInt(a)
	}
	return out
}

func bare(s input) input {
	return input{bareList(s.a), bareList(s.b)}
}

// guardedInt is a within a longer memory.
func guardedInt(a api.Int) api.Int {
	memory := append(slices.Clone(a.L), all, 77, 1, all)
	return api.Int{Neg: a.Neg, L: memory[:len(a.L)]}
}

func guardedList(p api.Poly) api.Poly {
	var memory api.Poly
	for _, a := range p {
		memory = append(memory, guardedInt(a))
	}
	for _, n := range []int64{5, 0, -7} {
		memory = append(memory, guardedInt(raw(n)[0]))
	}
	return memory[:len(p)]
}

func guarded(s input) input {
	return input{guardedList(s.a), guardedList(s.b)}
}

// wholeInt and wholeList are all the memory, also that beyond the length.
func wholeInt(a api.Int) api.Int {
	return api.Int{Neg: a.Neg, L: a.L[:cap(a.L)]}
}

func wholeList(p api.Poly) api.Poly {
	var out api.Poly
	for _, a := range p[:cap(p)] {
		out = append(out, wholeInt(a))
	}
	return out
}

// intact tells whether the memory of what guarded made for s is still as it was, so far as guarded wrote it.
func intact(s, now input) bool {
	was := guarded(s)
	return starts(now.a, was.a) && starts(now.b, was.b)
}

func starts(now, was api.Poly) bool {
	if len(now) != len(was) {
		return false
	}
	n := len(was) + 3
	return slices.EqualFunc(now[:n], was[:n], startsInt)
}

func startsInt(now, was api.Int) bool {
	n := len(was.L) + 4
	return now.Neg == was.Neg && len(now.L) == len(was.L) && slices.Equal(now.L[:n], was.L[:n])
}

func equal(a, b []api.Poly) bool {
	return slices.EqualFunc(a, b, same)
}

func copied(l []api.Poly) []api.Poly {
	var out []api.Poly
	for _, p := range l {
		out = append(out, bareList(p))
	}
	return out
}

// spoil overwrites all the memory of a list, also that beyond its length: first the limbs of its integers, then the integers.
func spoil(p api.Poly) {
	for _, a := range wholeList(p) {
		for i := range a.L {
			a.L[i] = 0xdeadbeef
		}
	}
	memory := p[:cap(p)]
	for i := range memory {
		memory[i] = api.Int{Neg: true, L: []uint32{0xdeadbeef}}
	}
}

// spoilOneByOne overwrites the limbs of one coefficient after the other, and looks whether those after it stay.
func spoilOneByOne(t *testing.T, name string, p api.Poly) {
	t.Helper()
	want := bareList(p)
	for i := range p {
		for k := range wholeInt(p[i]).L {
			p[i].L[:cap(p[i].L)][k] = 0xdeadbeef
		}
		if !same(p[i+1:], want[i+1:]) {
			t.Error(name, want, "two coefficients share memory")
		}
	}
}

// TestArguments: they are not modified, and memory beyond their length is neither read nor written.
func TestArguments(t *testing.T) {
	for _, c := range calls() {
		for _, s := range samples() {
			want := copied(c.run(bare(s)))
			given := guarded(s)
			if got := c.run(given); !equal(got, want) {
				t.Error(c.name, s, got, want)
			}
			if !intact(s, given) {
				t.Error(c.name, s, given)
			}
		}
	}
}

// TestSameArgument: both polynomials may be one list.
func TestSameArgument(t *testing.T) {
	for _, c := range calls() {
		for _, s := range samples() {
			one := bare(input{s.a, nil})
			one.b = one.a
			if got, want := c.run(one), c.run(bare(one)); !equal(got, want) || !same(one.a, s.a) {
				t.Error(c.name, s, got, want)
			}
		}
	}
}

// TestOneMemory: the coefficients of the polynomials may be one list.
func TestOneMemory(t *testing.T) {
	for _, c := range calls() {
		for _, l := range [][]uint32{{0}, {1}, {3, 0}, {all, 7}} {
			x := api.Int{L: l}
			given := input{api.Poly{x, x, x, x}, api.Poly{x, x}}
			want := c.run(bare(given))
			if got := c.run(given); !equal(got, want) {
				t.Error(c.name, l, got, want)
			}
		}
	}
}

// TestResultsAreNew: no two lists of a result share memory, nor does one share it with an argument or with a later call's.
func TestResultsAreNew(t *testing.T) {
	for _, c := range calls() {
		for _, s := range samples() {
			given := guarded(s)
			first := c.run(given)
			want := copied(first)
			for i, p := range first {
				spoilOneByOne(t, c.name, p)
				spoil(p)
				if !equal(first[i+1:], want[i+1:]) {
					t.Error(c.name, s, "two results share memory")
				}
			}
			if !intact(s, given) {
				t.Error(c.name, s, "a result shares memory with an argument")
			}
			second := c.run(given)
			if !equal(second, want) {
				t.Error(c.name, s, second, want)
			}
			spoil(given.a)
			spoil(given.b)
			if !equal(second, want) {
				t.Error(c.name, s, "an argument is kept")
			}
		}
	}
}

// TestForms: nil and an empty list are equivalent, and so are the normal form of a polynomial and every other one.
func TestForms(t *testing.T) {
	for _, c := range calls() {
		for _, s := range samples() {
			want := c.run(input{poly.Norm(s.a), poly.Norm(s.b)})
			for _, top := range []api.Poly{nil, {}, {{}}, noughts()} {
				for _, limbs := range [][]uint32{{}, {0}, {0, 0, 0}} {
					wide := input{widerList(s.a, top, limbs), widerList(s.b, top, limbs)}
					if got := c.run(wide); !equal(got, want) {
						t.Error(c.name, wide, got, want)
					}
				}
			}
		}
	}
}

func wider(a api.Int, limbs []uint32) api.Int {
	return api.Int{Neg: a.Neg, L: append(append([]uint32{}, a.L...), limbs...)}
}

func widerList(p, top api.Poly, limbs []uint32) api.Poly {
	out := api.Poly{}
	for _, a := range p {
		out = append(out, wider(a, limbs))
	}
	return append(out, top...)
}

// TestRows: the list of a variadic call is an argument like others.
func TestRows(t *testing.T) {
	list := func() []api.Poly {
		return []api.Poly{raw(-4, 0, 4), {{Neg: true, L: []uint32{1, 0}}, {L: []uint32{1}}, {Neg: true}}, nil, raw(2, -3, 1), raw(7)}
	}
	memory := list()
	if got := pgcd.Gcd(memory[:4]...); !same(got, raw(-1, 1)) {
		t.Error(got)
	}
	if !equal(memory, list()) {
		t.Error(memory)
	}
}
