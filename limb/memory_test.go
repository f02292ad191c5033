package limb_test

import (
	"slices"
	"testing"

	"orrery/limb"
)

// call is a function of the package: the lists that it returns for two lists.
type call struct {
	name string
	run  func(a, b []uint32) [][]uint32
}

// calls are all functions that are given lists.
func calls() []call {
	shift := func(f func([]uint32, int) []uint32, n int) func(a, b []uint32) [][]uint32 {
		return func(a, _ []uint32) [][]uint32 { return [][]uint32{f(a, n)} }
	}
	return []call{
		{"Norm", func(a, _ []uint32) [][]uint32 { return [][]uint32{limb.Norm(a)} }},
		{"Cmp", func(a, b []uint32) [][]uint32 { return [][]uint32{{uint32(limb.Cmp(a, b) + 1)}} }},
		{"Add", func(a, b []uint32) [][]uint32 { return [][]uint32{limb.Add(a, b)} }},
		{"Sub", func(a, b []uint32) [][]uint32 { d, _ := limb.Sub(a, b); return [][]uint32{d} }},
		{"Mul", func(a, b []uint32) [][]uint32 { return [][]uint32{limb.Mul(a, b)} }},
		{"Sum", func(a, b []uint32) [][]uint32 { return [][]uint32{limb.Sum(a, b, a)} }},
		{"Sum of one", func(a, _ []uint32) [][]uint32 { return [][]uint32{limb.Sum(a)} }},
		{"DivMod", func(a, b []uint32) [][]uint32 { q, r, _ := limb.DivMod(a, b); return [][]uint32{q, r} }},
		{"Bits", func(a, _ []uint32) [][]uint32 { return [][]uint32{{uint32(limb.Bits(a))}} }},
		{"Shl by 0", shift(limb.Shl, 0)},
		{"Shl by 32", shift(limb.Shl, 32)},
		{"Shl by 37", shift(limb.Shl, 37)},
		{"Shr by 0", shift(limb.Shr, 0)},
		{"Shr by 32", shift(limb.Shr, 32)},
		{"Shr by 37", shift(limb.Shr, 37)},
	}
}

// guarded is a within a longer memory, which is returned as well.
func guarded(a []uint32) (list, memory []uint32) {
	memory = append(slices.Clone(a), all, 77, 1, all)
	return memory[:len(a)], memory
}

// samples are the pairs that reach every branch of the functions.
func samples() [][2][]uint32 {
	var out [][2][]uint32
	few := [][]uint32{nil, {0}, {3}, {all, 0}, {4, 5, 0, 0}, {all, all, all}, {9, 0, 7, 1 << 30}}
	for _, a := range few {
		for _, b := range few {
			out = append(out, [2][]uint32{a, b})
		}
	}
	return out
}

func equal(a, b [][]uint32) bool {
	return slices.EqualFunc(a, b, slices.Equal[[]uint32])
}

func copied(l [][]uint32) [][]uint32 {
	var out [][]uint32
	for _, a := range l {
		out = append(out, slices.Clone(a))
	}
	return out
}

// fill overwrites all the memory of a list, also that beyond its length.
func fill(a []uint32) {
	a = a[:cap(a)]
	for i := range a {
		a[i] = 0xdeadbeef
	}
}

// TestArguments: they are not modified, and memory beyond their length is neither read nor written.
func TestArguments(t *testing.T) {
	for _, c := range calls() {
		for _, s := range samples() {
			want := copied(c.run(slices.Clip(slices.Clone(s[0])), slices.Clip(slices.Clone(s[1]))))
			a, amem := guarded(s[0])
			b, bmem := guarded(s[1])
			if got := c.run(a, b); !equal(got, want) {
				t.Error(c.name, s, got, want)
			}
			_, amem2 := guarded(s[0])
			_, bmem2 := guarded(s[1])
			if !slices.Equal(amem, amem2) || !slices.Equal(bmem, bmem2) {
				t.Error(c.name, s, amem, bmem)
			}
		}
	}
}

// TestSameArgument: both arguments may be one list.
func TestSameArgument(t *testing.T) {
	for _, c := range calls() {
		for _, s := range samples() {
			a := slices.Clone(s[0])
			if got, want := c.run(a, a), c.run(slices.Clone(a), slices.Clone(a)); !equal(got, want) || !slices.Equal(a, s[0]) {
				t.Error(c.name, s[0], got, want)
			}
		}
	}
}

// TestResultsAreNew: a result shares no memory with an argument, with another result, or with a later call's.
func TestResultsAreNew(t *testing.T) {
	for _, c := range calls() {
		for _, s := range samples() {
			a, amem := guarded(s[0])
			b, bmem := guarded(s[1])
			first := c.run(a, b)
			want := copied(first)
			for i := range first {
				fill(first[i])
				for k := i + 1; k < len(first); k++ {
					if !slices.Equal(first[k], want[k]) {
						t.Error(c.name, s, "two results share memory")
					}
				}
			}
			_, amem2 := guarded(s[0])
			_, bmem2 := guarded(s[1])
			if !slices.Equal(amem, amem2) || !slices.Equal(bmem, bmem2) {
				t.Error(c.name, s, "a result shares memory with an argument")
			}
			second := c.run(a, b)
			if !equal(second, want) {
				t.Error(c.name, s, second, want)
			}
			fill(amem)
			fill(bmem)
			if !equal(second, want) {
				t.Error(c.name, s, "an argument is kept")
			}
		}
	}
}

// TestNilIsEmpty: nil and an empty list are equivalent, as is 0 with zero limbs on top.
func TestNilIsEmpty(t *testing.T) {
	for _, c := range calls() {
		for _, b := range [][]uint32{nil, {5}, {6, 7, 8}} {
			for _, zero := range [][]uint32{{}, {0}, {0, 0, 0}} {
				if got, want := c.run(zero, b), c.run(nil, b); !equal(got, want) {
					t.Error(c.name, zero, b, got, want)
				}
				if got, want := c.run(b, zero), c.run(b, nil); !equal(got, want) {
					t.Error(c.name, b, zero, got, want)
				}
			}
		}
	}
}

// TestSumList: the list of a variadic call is an argument like others.
func TestSumList(t *testing.T) {
	memory := [][]uint32{{all}, {1}, nil, {7, 0}, {99}, {99}}
	if got := limb.Sum(memory[:4]...); !slices.Equal(got, []uint32{7, 1}) {
		t.Error(got)
	}
	if !equal(memory, [][]uint32{{all}, {1}, nil, {7, 0}, {99}, {99}}) {
		t.Error(memory)
	}
}
