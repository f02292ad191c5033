package det_test

import (
	"slices"
	"testing"

	"orrery/api"
	"orrery/det"
)

// run calls every function of the package with these rows, and returns all rows that they return.
func run(rows [][]api.Poly) [][]api.Poly {
	var out [][]api.Poly
	if p, err := det.Det(rows...); err == api.OK {
		out = append(out, []api.Poly{p})
	}
	for i := range rows {
		for k := range rows {
			if minor, err := det.Minor(i, k, rows...); err == api.OK {
				out = append(out, minor...)
			}
		}
	}
	for _, row := range rows {
		out = append(out, det.Row(row...))
	}
	return out
}

// samples are rows that reach every branch of the functions.
func samples() [][][]api.Poly {
	var d draw = 8
	out := [][][]api.Poly{nil, {numbers(1, 2)}, {{raw(3), nil}, {nil}}, {{nil}}, {{raw(0, 5)}}}
	for n := range 6 {
		for i := range 4 {
			out = append(out, rows(n, func() api.Poly { return listOf(d.few(1 + i)).poly() }))
		}
	}
	long := raw(4, 0, -6)
	long[1] = api.Int{L: []uint32{all, 0, all}}
	return append(out, [][]api.Poly{{long, raw(1)}, {raw(-2, 1), long}}, [][]api.Poly{{long, long, nil}, {nil, raw(1), long}, {raw(7), nil, nil}})
}

// guardedInt is a within a longer memory.
func guardedInt(a api.Int) api.Int {
	memory := append(slices.Clone(a.L), all, 77, 1, all)
	return api.Int{Neg: a.Neg, L: memory[:len(a.L)]}
}

func guardedPoly(p api.Poly) api.Poly {
	var memory api.Poly
	for _, x := range append(slices.Clone(p), raw(5, 0, -7)...) {
		memory = append(memory, guardedInt(x))
	}
	return memory[:len(p)]
}

func guardedRow(row []api.Poly) []api.Poly {
	var memory []api.Poly
	for _, p := range append(slices.Clone(row), raw(1, 2), nil, raw(3)) {
		memory = append(memory, guardedPoly(p))
	}
	return memory[:len(row)]
}

func guarded(rows [][]api.Poly) [][]api.Poly {
	var memory [][]api.Poly
	for _, row := range append(slices.Clone(rows), numbers(1, 2, 3), nil) {
		memory = append(memory, guardedRow(row))
	}
	return memory[:len(rows)]
}

// full has all the memory of the lists, also that beyond their lengths.
func full(rows [][]api.Poly) [][]api.Poly {
	var out [][]api.Poly
	for _, row := range rows[:cap(rows)] {
		var wide []api.Poly
		for _, p := range row[:cap(row)] {
			var long api.Poly
			for _, a := range p[:cap(p)] {
				long = append(long, api.Int{Neg: a.Neg, L: a.L[:cap(a.L)]})
			}
			wide = append(wide, long)
		}
		out = append(out, wide)
	}
	return out
}

// copied is new memory with the same content.
func copied(rows [][]api.Poly) [][]api.Poly {
	var out [][]api.Poly
	for _, row := range rows {
		var l []api.Poly
		for _, p := range row {
			var q api.Poly
			for _, a := range p {
				q = append(q, api.Int{Neg: a.Neg, L: slices.Clone(a.L)})
			}
			l = append(l, q)
		}
		out = append(out, l)
	}
	return out
}

// limbs are the lists of limbs of all coefficients.
func limbs(rows [][]api.Poly) [][]uint32 {
	var out [][]uint32
	for _, row := range rows {
		for _, p := range row {
			for _, a := range p {
				out = append(out, a.L)
			}
		}
	}
	return out
}

// spoil overwrites a list of limbs, and all its memory beyond its length.
func spoil(l []uint32) {
	l = l[:cap(l)]
	for i := range l {
		l[i] = 0xdeadbeef
	}
}

// spoilAll overwrites all memory of the rows.
func spoilAll(rows [][]api.Poly) {
	for _, l := range limbs(full(rows)) {
		spoil(l)
	}
	for _, row := range rows[:cap(rows)] {
		for _, p := range row[:cap(row)] {
			clear(p[:cap(p)])
		}
		clear(row[:cap(row)])
	}
	clear(rows[:cap(rows)])
}

// TestArguments: they are not modified, and memory beyond their length is neither read nor written.
func TestArguments(t *testing.T) {
	for _, s := range samples() {
		want := run(s)
		given := guarded(s)
		was := copied(full(given))
		if got := run(given); !sameRows(got, want) {
			t.Error(s, got, want)
		}
		if !sameRows(full(given), was) {
			t.Error(s, given)
		}
	}
}

// TestOneMemory: arguments may share one memory.
func TestOneMemory(t *testing.T) {
	for _, s := range samples() {
		for _, row := range s {
			var rows [][]api.Poly
			for range row {
				rows = append(rows, row)
			}
			want := run(copied(rows))
			was := copied(rows)
			if got := run(rows); !sameRows(got, want) || !sameRows(rows, was) {
				t.Error(rows, got, want)
			}
		}
	}
}

// TestResultsAreNew: no two lists of the results share memory, within one call or between calls, nor does one share it with an argument, or with what later calls return.
func TestResultsAreNew(t *testing.T) {
	for _, s := range samples() {
		given := guarded(s)
		was := copied(full(given))
		want := run(s)
		got := run(given)
		l, kept := limbs(got), limbs(copied(got))
		for i := range l {
			spoil(l[i])
			if !slices.EqualFunc(l[i+1:], kept[i+1:], slices.Equal[[]uint32]) {
				t.Error(s, "two numbers share memory")
			}
		}
		got = run(given)
		for i, row := range got {
			for k, p := range row {
				clear(p[:cap(p)])
				for _, q := range row[k+1:] {
					if len(q) > 0 && len(q[len(q)-1].L) == 0 {
						t.Error(s, "two polynomials share memory")
					}
				}
			}
			clear(row[:cap(row)])
			if !sameRows(got[i+1:], want[i+1:]) {
				t.Error(s, "two rows share memory")
			}
		}
		if !sameRows(full(given), was) {
			t.Error(s, "a result shares memory with an argument")
		}
		if got := run(given); !sameRows(got, want) {
			t.Error(s, got, want)
		}
	}
}

// TestOuterIsNew: the list of rows that Minor returns is new memory.
func TestOuterIsNew(t *testing.T) {
	for _, s := range samples() {
		given := guarded(s)
		was := copied(full(given))
		for i := range s {
			minor, _ := det.Minor(i, i, given...)
			clear(minor[:cap(minor)])
		}
		if !sameRows(full(given), was) {
			t.Error(s, given)
		}
	}
}

// TestArgumentsAreNotKept: what becomes of an argument later is nothing to a result, nor to later calls.
func TestArgumentsAreNotKept(t *testing.T) {
	for _, s := range samples() {
		want := run(s)
		given := guarded(s)
		got := run(given)
		spoilAll(given)
		if !sameRows(got, want) || !sameRows(run(s), want) {
			t.Error(s, got, want)
		}
	}
}

// formPoly is p in the i-th of several forms in which it may be passed.
func formPoly(p api.Poly, i int) api.Poly {
	out := api.Poly{}
	for _, a := range p {
		out = append(out, api.Int{Neg: a.Neg || len(a.L) == 0, L: append(slices.Clone(a.L), make([]uint32, i%3)...)})
	}
	if n := noPolys(); len(p) == 0 {
		return n[i%len(n)]
	}
	return append(out, []api.Poly{nil, {{}}, noughts()}[i%3]...)
}

// TestForms: the normal form of a polynomial and every other one are equivalent.
func TestForms(t *testing.T) {
	for _, s := range samples() {
		want := run(s)
		for i := range 16 {
			var form [][]api.Poly
			for n, row := range s {
				l := []api.Poly{}
				for k, p := range row {
					l = append(l, formPoly(p, i+n+2*k))
				}
				form = append(form, l)
			}
			if got := run(form); !sameRows(got, want) {
				t.Error(s, form, got, want)
			}
		}
	}
}

// TestOrderOfCalls: an answer does not depend on earlier calls.
func TestOrderOfCalls(t *testing.T) {
	var want [][][]api.Poly
	for _, s := range samples() {
		want = append(want, run(s))
	}
	for i, s := range slices.Backward(samples()) {
		if got := run(s); !sameRows(got, want[i]) {
			t.Error(s, got, want[i])
		}
	}
}
