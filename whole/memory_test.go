package whole_test

import (
	"slices"
	"testing"

	"orrery/api"
	"orrery/whole"
)

// call is a function of the package: the numbers that it returns for two numbers.
type call struct {
	name string
	run  func(a, b api.Int) []api.Int
}

// calls are all functions that are given numbers.
func calls() []call {
	one := func(f func(a api.Int) api.Int) func(a, b api.Int) []api.Int {
		return func(a, _ api.Int) []api.Int { return []api.Int{f(a)} }
	}
	two := func(f func(a, b api.Int) api.Int) func(a, b api.Int) []api.Int {
		return func(a, b api.Int) []api.Int { return []api.Int{f(a, b)} }
	}
	row := func(f func(l ...api.Int) api.Int) func(a, b api.Int) []api.Int {
		return func(a, b api.Int) []api.Int { return []api.Int{f(a, b, a), f(a, b), f(a)} }
	}
	return []call{
		{"Norm", one(whole.Norm)},
		{"Cmp", func(a, b api.Int) []api.Int { return []api.Int{whole.Of(whole.Cmp(a, b))} }},
		{"Neg", one(whole.Neg)},
		{"Abs", one(whole.Abs)},
		{"Add", two(whole.Add)},
		{"Sub", two(whole.Sub)},
		{"Mul", two(whole.Mul)},
		{"Sum", row(whole.Sum)},
		{"Product", row(whole.Product)},
		{"DivMod", func(a, b api.Int) []api.Int { q, r, _ := whole.DivMod(a, b); return []api.Int{q, r} }},
		{"Exact", func(a, b api.Int) []api.Int { q, _ := whole.Exact(a, b); return []api.Int{q} }},
		{"Gcd", row(whole.Gcd)},
		{"Pow", func(a, _ api.Int) []api.Int { return []api.Int{whole.Pow(a, 0), whole.Pow(a, 1), whole.Pow(a, 5)} }},
		{"Small", func(a, _ api.Int) []api.Int { n, _ := whole.Small(a); return []api.Int{whole.Of(n)} }},
	}
}

// guarded is a within a longer memory, which is returned as well.
func guarded(a api.Int) (number api.Int, memory []uint32) {
	memory = append(slices.Clone(a.L), all, 77, 1, all)
	return api.Int{Neg: a.Neg, L: memory[:len(a.L)]}, memory
}

// samples are the pairs that reach every branch of the functions.
func samples() [][2]api.Int {
	var few []api.Int
	for _, l := range [][]uint32{nil, {0}, {1}, {3}, {all, 0}, {4, 5, 0, 0}, {all, all, all}, {9, 0, 7, 1 << 30}} {
		few = append(few, api.Int{L: l}, api.Int{Neg: true, L: l})
	}
	var out [][2]api.Int
	for _, a := range few {
		for _, b := range few {
			out = append(out, [2]api.Int{a, b})
		}
	}
	return out
}

func same(a, b api.Int) bool {
	return a.Neg == b.Neg && slices.Equal(a.L, b.L)
}

func equal(a, b []api.Int) bool {
	return slices.EqualFunc(a, b, same)
}

func copied(l []api.Int) []api.Int {
	var out []api.Int
	for _, a := range l {
		out = append(out, api.Int{Neg: a.Neg, L: slices.Clone(a.L)})
	}
	return out
}

// bare is a in memory that ends with it.
func bare(a api.Int) api.Int {
	return api.Int{Neg: a.Neg, L: slices.Clip(slices.Clone(a.L))}
}

// fill overwrites all the memory of a list, also that beyond its length.
func fill(l []uint32) {
	l = l[:cap(l)]
	for i := range l {
		l[i] = 0xdeadbeef
	}
}

// TestArguments: they are not modified, and memory beyond their length is neither read nor written.
func TestArguments(t *testing.T) {
	for _, c := range calls() {
		for _, s := range samples() {
			want := copied(c.run(bare(s[0]), bare(s[1])))
			a, amem := guarded(s[0])
			b, bmem := guarded(s[1])
			if got := c.run(a, b); !equal(got, want) {
				t.Error(c.name, s, got, want)
			}
			_, amem2 := guarded(s[0])
			_, bmem2 := guarded(s[1])
			if !slices.Equal(amem, amem2) || !slices.Equal(bmem, bmem2) {
				t.Error(c.name, s, amem, bmem)
			}
		}
	}
}

// TestSameArgument: both arguments may be one number.
func TestSameArgument(t *testing.T) {
	for _, c := range calls() {
		for _, s := range samples() {
			a := bare(s[0])
			if got, want := c.run(a, a), c.run(bare(a), bare(a)); !equal(got, want) || !same(a, s[0]) {
				t.Error(c.name, s[0], got, want)
			}
		}
	}
}

// TestResultsAreNew: a result shares no memory with an argument, with another result, or with a later call's.
func TestResultsAreNew(t *testing.T) {
	for _, c := range calls() {
		for _, s := range samples() {
			a, amem := guarded(s[0])
			b, bmem := guarded(s[1])
			first := c.run(a, b)
			want := copied(first)
			for i := range first {
				fill(first[i].L)
				if !equal(first[i+1:], want[i+1:]) {
					t.Error(c.name, s, "two results share memory")
				}
			}
			_, amem2 := guarded(s[0])
			_, bmem2 := guarded(s[1])
			if !slices.Equal(amem, amem2) || !slices.Equal(bmem, bmem2) {
				t.Error(c.name, s, "a result shares memory with an argument")
			}
			second := c.run(a, b)
			if !equal(second, want) {
				t.Error(c.name, s, second, want)
			}
			fill(amem)
			fill(bmem)
			if !equal(second, want) {
				t.Error(c.name, s, "an argument is kept")
			}
		}
	}
}

// TestForms: nil and an empty list are equivalent, and so are the normal form of a number and every other one.
func TestForms(t *testing.T) {
	for _, c := range calls() {
		for _, s := range samples() {
			want := c.run(whole.Norm(s[0]), whole.Norm(s[1]))
			for _, top := range [][]uint32{{}, {0}, {0, 0, 0}} {
				a, b := s[0], s[1]
				a.L, b.L = append([]uint32{}, append(a.L, top...)...), append([]uint32{}, append(b.L, top...)...)
				if got := c.run(a, b); !equal(got, want) {
					t.Error(c.name, a, b, got, want)
				}
			}
		}
	}
}

// TestRows: the list of a variadic call is an argument like others.
func TestRows(t *testing.T) {
	row := func() []api.Int {
		return []api.Int{whole.Of(6), {Neg: true, L: []uint32{15, 0}}, {Neg: true}, whole.Of(-9), whole.Of(1), whole.Of(1)}
	}
	for _, c := range []struct {
		name string
		run  func(l ...api.Int) api.Int
		want int
	}{{"Sum", whole.Sum, -18}, {"Product", whole.Product, 0}, {"Gcd", whole.Gcd, 3}} {
		memory := row()
		if got := c.run(memory[:4]...); !same(got, whole.Of(c.want)) {
			t.Error(c.name, got)
		}
		if !equal(memory, row()) {
			t.Error(c.name, memory)
		}
	}
}

// TestOfIsNew: two calls share no memory.
func TestOfIsNew(t *testing.T) {
	for _, n := range []int{0, 1, -5, 1 << 40} {
		a, b := whole.Of(n), whole.Of(n)
		fill(a.L)
		if got, ok := whole.Small(b); got != n || !ok {
			t.Error(n, b)
		}
	}
}
