package ratio_test

import (
	"math/big"
	"slices"
	"testing"

	"orrery/api"
	"orrery/ratio"
)

// call is a function of the package: the numbers that it returns for two numbers.
type call struct {
	name string
	run  func(a, b api.Rat) []api.Rat
}

// calls are all functions that are given numbers.
func calls() []call {
	one := func(f func(a api.Rat) api.Rat) func(a, b api.Rat) []api.Rat {
		return func(a, _ api.Rat) []api.Rat { return []api.Rat{f(a)} }
	}
	two := func(f func(a, b api.Rat) api.Rat) func(a, b api.Rat) []api.Rat {
		return func(a, b api.Rat) []api.Rat { return []api.Rat{f(a, b)} }
	}
	return []call{
		{"Make", func(a, b api.Rat) []api.Rat { x, _ := ratio.Make(a.Int, b.Int); return []api.Rat{x} }},
		{"Int", func(a, _ api.Rat) []api.Rat { return []api.Rat{ratio.Int(a.Int)} }},
		{"Cmp", func(a, b api.Rat) []api.Rat { return []api.Rat{raw(int64(ratio.Cmp(a, b)), 1)} }},
		{"Add", two(ratio.Add)},
		{"Sub", two(ratio.Sub)},
		{"Mul", two(ratio.Mul)},
		{"Quo", func(a, b api.Rat) []api.Rat { x, _ := ratio.Quo(a, b); return []api.Rat{x} }},
		{"Neg", one(ratio.Neg)},
		{"Mid", two(ratio.Mid)},
		{"Floor", func(a, _ api.Rat) []api.Rat { return []api.Rat{{Int: ratio.Floor(a)}} }},
		{"Sum", func(a, b api.Rat) []api.Rat { return []api.Rat{ratio.Sum(a, b, a), ratio.Sum(b), ratio.Sum()} }},
		{"Max", func(a, b api.Rat) []api.Rat { return []api.Rat{ratio.Max(a, b, a), ratio.Max(a), ratio.Max(b, a)} }},
	}
}

// guarded is a within longer memories, which are returned as well.
func guarded(a api.Rat) (number api.Rat, memory [2][]uint32) {
	for i, l := range [2][]uint32{a.L, a.D.L} {
		memory[i] = append(slices.Clone(l), all, 77, 1, all)
	}
	number.Int = api.Int{Neg: a.Neg, L: memory[0][:len(a.L)]}
	number.D = api.Int{Neg: a.D.Neg, L: memory[1][:len(a.D.L)]}
	return number, memory
}

// intact tells whether the memories are still those that guarded made for a.
func intact(a api.Rat, memory [2][]uint32) bool {
	_, want := guarded(a)
	return slices.Equal(memory[0], want[0]) && slices.Equal(memory[1], want[1])
}

// bare is a in memory that ends with it.
func bare(a api.Rat) api.Rat {
	return api.Rat{Int: bareInt(a.Int), D: bareInt(a.D)}
}

func bareInt(a api.Int) api.Int {
	return api.Int{Neg: a.Neg, L: slices.Clip(slices.Clone(a.L))}
}

// samples are the pairs that reach every branch of the functions.
func samples() [][2]api.Rat {
	var few []api.Rat
	for _, n := range [][]uint32{nil, {0}, {1}, {6, 0}, {all, all, all}} {
		for _, d := range [][]uint32{nil, {0, 0}, {1}, {4, 0}, {0, 7}} {
			few = append(few, api.Rat{Int: api.Int{L: n}, D: api.Int{Neg: true, L: d}}, api.Rat{Int: api.Int{Neg: true, L: n}, D: api.Int{L: d}})
		}
	}
	var out [][2]api.Rat
	for _, a := range few {
		for _, b := range few {
			out = append(out, [2]api.Rat{a, b})
		}
	}
	return out
}

func equal(a, b []api.Rat) bool {
	return slices.EqualFunc(a, b, same)
}

func copied(l []api.Rat) []api.Rat {
	var out []api.Rat
	for _, a := range l {
		out = append(out, bare(a))
	}
	return out
}

// lists are all lists of limbs within the numbers.
func lists(l []api.Rat) [][]uint32 {
	var out [][]uint32
	for _, a := range l {
		out = append(out, a.L, a.D.L)
	}
	return out
}

// fill overwrites all the memory of a list, also that beyond its length.
func fill(l []uint32) {
	l = l[:cap(l)]
	for i := range l {
		l[i] = 0xdeadbeef
	}
}

// TestArguments: they are not modified, and memory beyond their length is neither read nor written.
func TestArguments(t *testing.T) {
	for _, c := range calls() {
		for _, s := range samples() {
			want := copied(c.run(bare(s[0]), bare(s[1])))
			a, amem := guarded(s[0])
			b, bmem := guarded(s[1])
			if got := c.run(a, b); !equal(got, want) {
				t.Error(c.name, s, got, want)
			}
			if !intact(s[0], amem) || !intact(s[1], bmem) {
				t.Error(c.name, s, amem, bmem)
			}
		}
	}
}

// TestSameArgument: both arguments, and the numerator and the denominator, may be one list.
func TestSameArgument(t *testing.T) {
	for _, c := range calls() {
		for _, s := range samples() {
			a := bare(s[0])
			if got, want := c.run(a, a), c.run(bare(a), bare(a)); !equal(got, want) || !same(a, s[0]) {
				t.Error(c.name, s[0], got, want)
			}
			a.D.L = a.L
			if got, want := c.run(a, a), c.run(bare(a), bare(a)); !equal(got, want) || !slices.Equal(a.L, s[0].L) {
				t.Error(c.name, a, got, want)
			}
		}
	}
}

// TestResultsAreNew: no two lists of a result share memory, nor does one share it with an argument or with a later call's.
func TestResultsAreNew(t *testing.T) {
	for _, c := range calls() {
		for _, s := range samples() {
			a, amem := guarded(s[0])
			b, bmem := guarded(s[1])
			first := c.run(a, b)
			want := copied(first)
			got, left := lists(first), lists(want)
			for i := range got {
				fill(got[i])
				for k := i + 1; k < len(got); k++ {
					if !slices.Equal(got[k], left[k]) {
						t.Error(c.name, s, "two lists share memory")
					}
				}
			}
			if !intact(s[0], amem) || !intact(s[1], bmem) {
				t.Error(c.name, s, "a result shares memory with an argument")
			}
			second := c.run(a, b)
			if !equal(second, want) {
				t.Error(c.name, s, second, want)
			}
			for i := range amem {
				fill(amem[i])
				fill(bmem[i])
			}
			if !equal(second, want) {
				t.Error(c.name, s, "an argument is kept")
			}
		}
	}
}

// TestForms: every form of a number is the same argument as its lowest terms.
func TestForms(t *testing.T) {
	for _, c := range calls()[2:] {
		for _, s := range samples() {
			x, y := fracOf(s[0]), fracOf(s[1])
			want := c.run(ratOf(x), ratOf(y))
			for _, by := range []int64{1, -1, 6, -1 << 40} {
				if got := c.run(widened(x, by), widened(y, -by)); !equal(got, want) {
					t.Error(c.name, s, by, got, want)
				}
			}
			if got := c.run(s[0], s[1]); !equal(got, want) {
				t.Error(c.name, s, got, want)
			}
		}
	}
}

// widened is the number with both parts multiplied and with zero limbs on top.
func widened(f *big.Rat, by int64) api.Rat {
	n := intOf(new(big.Int).Mul(f.Num(), big.NewInt(by)))
	d := intOf(new(big.Int).Mul(f.Denom(), big.NewInt(by)))
	return api.Rat{Int: api.Int{Neg: n.Neg, L: append(n.L, 0)}, D: api.Int{Neg: d.Neg, L: append(d.L, 0, 0)}}
}

// TestRows: the list of a variadic call is an argument like others.
func TestRows(t *testing.T) {
	row := func() []api.Rat {
		return []api.Rat{raw(6, -4), raw(15, 10), {Int: api.Int{Neg: true}, D: api.Int{Neg: true}}, raw(-2, 0), raw(9, 1), raw(9, 1)}
	}
	for _, c := range []struct {
		name string
		run  func(l ...api.Rat) api.Rat
		want api.Rat
	}{
		{"Sum", ratio.Sum, raw(-2, 1)},
		{"Max", func(l ...api.Rat) api.Rat { return ratio.Max(l[0], l[1:]...) }, raw(3, 2)},
	} {
		memory := row()
		if got := c.run(memory[:4]...); !same(got, c.want) {
			t.Error(c.name, got)
		}
		if !equal(memory, row()) {
			t.Error(c.name, memory)
		}
	}
}

// TestOfIsNew: two calls that are given no list share no memory.
func TestOfIsNew(t *testing.T) {
	for _, run := range []func() (api.Rat, api.Errno){
		func() (api.Rat, api.Errno) { return ratio.Of(0, 5) },
		func() (api.Rat, api.Errno) { return ratio.Of(1, 1) },
		func() (api.Rat, api.Errno) { return ratio.Of(1<<40, -3) },
		func() (api.Rat, api.Errno) { return ratio.Parse("6/4") },
		func() (api.Rat, api.Errno) { return ratio.Parse("-7") },
		func() (api.Rat, api.Errno) { return ratio.Sum(), api.OK },
	} {
		first, _ := run()
		second, err := run()
		want := bare(second)
		fill(first.L)
		if !same(api.Rat{D: first.D}, api.Rat{D: want.D}) {
			t.Error(want, "two lists share memory")
		}
		fill(first.D.L)
		third, _ := run()
		if err != api.OK || !same(second, want) || !same(third, want) {
			t.Error(second, third, want)
		}
	}
}
