package digits_test

import (
	"slices"
	"testing"

	"orrery/api"
	"orrery/digits"
)

// guarded is a within a longer memory, which is returned as well.
func guarded(a api.Int) (number api.Int, memory []uint32) {
	memory = append(slices.Clone(a.L), all, 77, 1, all)
	return api.Int{Neg: a.Neg, L: memory[:len(a.L)]}, memory
}

func samples() []api.Int {
	var out []api.Int
	for _, l := range [][]uint32{nil, {}, {0}, {1}, {1, 0}, {all, 0, 0}, {4, 5}, {999999999}, {1000000000, 0}, {all, all, all}} {
		out = append(out, api.Int{L: l}, api.Int{Neg: true, L: l})
	}
	return out
}

// TestArguments: they are not modified, and memory beyond their length is neither read nor written.
func TestArguments(t *testing.T) {
	for _, a := range samples() {
		number, memory := guarded(a)
		if got, want := digits.Text(number), bigOf(a).String(); got != want {
			t.Error(a, got)
		}
		if _, want := guarded(a); !slices.Equal(memory, want) {
			t.Error(a, memory)
		}
		for _, b := range samples() {
			under, below := guarded(b)
			if got, want := digits.Fraction(api.Rat{Int: number, D: under}), digits.Fraction(api.Rat{Int: a, D: b}); got != want {
				t.Error(a, b, got, want)
			}
			_, want := guarded(a)
			_, want2 := guarded(b)
			if !slices.Equal(memory, want) || !slices.Equal(below, want2) {
				t.Error(a, b, memory, below)
			}
		}
	}
}

// TestSameNumber: the numerator and the denominator may be one list.
func TestSameNumber(t *testing.T) {
	for _, a := range samples() {
		want := digits.Fraction(api.Rat{Int: a, D: api.Int{Neg: a.Neg, L: slices.Clone(a.L)}})
		if got := digits.Fraction(api.Rat{Int: a, D: a}); got != want {
			t.Error(a, got, want)
		}
	}
}

// TestTextIsKept: a text does not change with the number that it was made of, nor does the next one depend on it.
func TestTextIsKept(t *testing.T) {
	for _, a := range samples() {
		number, memory := guarded(a)
		first, second := digits.Text(number), digits.Fraction(api.Rat{Int: number, D: number})
		want, want2 := digits.Text(a), digits.Fraction(api.Rat{Int: a, D: a})
		for i := range memory {
			memory[i] = 0xdeadbeef
		}
		if first != want || second != want2 || digits.Text(a) != want {
			t.Error(a, first, second)
		}
	}
}

// TestParseIsNew: two results share no memory, and writing into one changes no later one.
func TestParseIsNew(t *testing.T) {
	for _, s := range []string{"0", "-0", "1", "-7", "000000001", "123456789", "1000000000", "340282366920938463463374607431768211456"} {
		first, err := digits.Parse(s)
		second, err2 := digits.Parse(s)
		if err != api.OK || err2 != api.OK {
			t.Error(s, err, err2)
		}
		want := slices.Clone(second.L)
		l := first.L[:cap(first.L)]
		for i := range l {
			l[i] = 0xdeadbeef
		}
		third, _ := digits.Parse(s)
		if !slices.Equal(second.L, want) || !slices.Equal(third.L, want) {
			t.Error(s, second, third)
		}
	}
}
