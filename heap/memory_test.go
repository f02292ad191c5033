package heap_test

import (
	"slices"
	"testing"

	"orrery/alg"
	"orrery/api"
	"orrery/heap"
	"orrery/poly"
	"orrery/whole"
)

// input is what a queue is filled with: the events, and new times for the first ones of them.
type input struct {
	events []api.Event
	times  []api.Alg
}

func fill(s input) *heap.Heap {
	h := filled(s.events...)
	for i, a := range s.times {
		h.Set(i+1, a)
	}
	return h
}

// ask calls everything that returns events, and changes nothing.
func ask(h *heap.Heap) []api.Event {
	var out []api.Event
	for handle := range h.Len() {
		e, _ := h.Get(handle + 1)
		out = append(out, e)
	}
	if least, ok := h.Least(); ok {
		out = append(out, least)
	}
	return append(out, drained(h.Clone())...)
}

// samples have rational times, roots in wide and in short intervals, long numbers, and many equal times.
func samples() []input {
	long := api.Alg{P: api.Poly{{Neg: true, L: []uint32{all, 7}}, {}, {L: []uint32{1, all}}}, Lo: fraction(0, 1), Hi: fraction(1<<40, 3)}
	times := []api.Alg{at(0), alg.Of(fraction(-7, 3)), root(2), long, alg.Refine(root(2), 90), root(3), alg.Of(fraction(1<<50, 7))}
	var out []input
	for i := range 16 {
		var s input
		for k := range i {
			s.events = append(s.events, event(times[(i*k+k/3)%len(times)], k%3, i, k%2))
		}
		for k := range i / 3 {
			s.times = append(s.times, times[(2*i+k)%len(times)])
		}
		out = append(out, s)
	}
	return out
}

// polys are all polynomials of a list of events.
func polys(l []api.Event) []api.Poly {
	var out []api.Poly
	for _, e := range l {
		out = append(out, e.At.P)
	}
	return out
}

// integers are all integers of a list of events, also those beyond the polynomials' lengths.
func integers(l []api.Event) []api.Int {
	var out []api.Int
	for _, e := range l {
		out = append(append(out, e.At.P[:cap(e.At.P)]...), e.At.Lo.Int, e.At.Lo.D, e.At.Hi.Int, e.At.Hi.D)
	}
	return out
}

// list has all events of an input, and one for each of the times.
func (s input) list() []api.Event {
	out := slices.Clone(s.events)
	for _, a := range s.times {
		out = append(out, api.Event{At: a})
	}
	return out
}

// guardedInt is a within a longer memory.
func guardedInt(a api.Int) api.Int {
	memory := append(slices.Clone(a.L), all, 77, 1, all)
	return api.Int{Neg: a.Neg, L: memory[:len(a.L)]}
}

func guardedRat(a api.Rat) api.Rat {
	return api.Rat{Int: guardedInt(a.Int), D: guardedInt(a.D)}
}

func guardedAlg(a api.Alg) api.Alg {
	memory := make(api.Poly, 0, len(a.P)+3)
	for _, x := range append(slices.Clone(a.P), poly.Of(5, 0, -7)...) {
		memory = append(memory, guardedInt(x))
	}
	return api.Alg{P: memory[:len(a.P)], Lo: guardedRat(a.Lo), Hi: guardedRat(a.Hi)}
}

func guarded(s input) input {
	var out input
	for _, e := range s.events {
		out.events = append(out.events, api.Event{Tag: e.Tag, At: guardedAlg(e.At)})
	}
	for _, a := range s.times {
		out.times = append(out.times, guardedAlg(a))
	}
	return out
}

// intact tells whether the memory of what guarded made for s is still as it was.
func intact(s, now input) bool {
	was := guarded(s).list()
	return sameEvents(now.list(), was) && slices.EqualFunc(integers(now.list()), integers(was), func(a, b api.Int) bool {
		n := len(b.L) + 4
		return a.Neg == b.Neg && len(a.L) == len(b.L) && cap(a.L) >= n && slices.Equal(a.L[:n], b.L[:n])
	})
}

// spoil overwrites all the memory of events, also that beyond its length.
func spoil(l []api.Event) {
	for _, a := range integers(l) {
		for i := range a.L[:cap(a.L)] {
			a.L[:cap(a.L)][i] = 0xdeadbeef
		}
	}
	for _, p := range polys(l) {
		clear(p[:cap(p)])
	}
}

// TestArguments: they are not modified, and memory beyond their length is neither read nor written.
func TestArguments(t *testing.T) {
	for _, s := range samples() {
		want := ask(fill(s))
		given := guarded(s)
		if got := ask(fill(given)); !sameEvents(got, want) {
			t.Error(s, got, want)
		}
		if !intact(s, given) {
			t.Error(s, given)
		}
	}
}

// TestArgumentsAreNotKept: what becomes of an argument later is nothing to the queue.
func TestArgumentsAreNotKept(t *testing.T) {
	for _, s := range samples() {
		want := ask(fill(s))
		given := guarded(s)
		h := fill(given)
		spoil(given.list())
		if got := ask(h); !sameEvents(got, want) {
			t.Error(s, got, want)
		}
		if len(given.times) > 0 && h.Set(0, given.times[0]) {
			t.Error(s)
		}
		if got := ask(h); !sameEvents(got, want) {
			t.Error(s, got, want)
		}
	}
}

// TestOneMemory: all numbers of an event, and several events, may share one memory.
func TestOneMemory(t *testing.T) {
	three := api.Int{L: []uint32{3, 0, 0}}
	one := api.Int{L: []uint32{1, 0}}
	p := api.Poly{{Neg: true, L: three.L}, one, {L: three.L[1:]}}
	a := api.Alg{P: p, Lo: api.Rat{Int: three, D: one}, Hi: api.Rat{Int: three, D: one}}
	h := filled(event(a, 1), event(a, 1, 2))
	h.Set(1, a)
	first, want := ask(h), event(at(3), 1)
	if !sameEvent(first[0], want) {
		t.Error(first)
	}
	checkNew(t, first)
	if got := ask(h); !sameEvent(got[0], want) || len(got) != 5 {
		t.Error(got)
	}
}

// checkNew tells an error if two lists of these events share memory; it spoils all of them.
func checkNew(t *testing.T, l []api.Event) {
	t.Helper()
	var kept []api.Event
	for _, e := range l {
		kept = append(kept, result(e))
	}
	was := integers(kept)
	var now []api.Int
	for _, e := range l {
		now = append(append(now, e.At.P...), e.At.Lo.Int, e.At.Lo.D, e.At.Hi.Int, e.At.Hi.D)
	}
	was = slices.DeleteFunc(was, func(a api.Int) bool { return len(a.L) == 0 })
	now = slices.DeleteFunc(now, func(a api.Int) bool { return len(a.L) == 0 })
	for i, a := range now {
		for k := range a.L[:cap(a.L)] {
			a.L[:cap(a.L)][k] = 0xdeadbeef
		}
		if !slices.EqualFunc(now[i+1:], was[i+1:], sameInt) {
			t.Fatal("two numbers share memory", l)
		}
	}
	for i, p := range polys(l) {
		clear(p[:cap(p)])
		for _, q := range polys(l)[i+1:] {
			if len(q) > 0 && len(q[len(q)-1].L) == 0 {
				t.Fatal("two polynomials share memory", l)
			}
		}
	}
}

// TestResultsAreNew: no two lists of the results share memory, nor does one share it with an argument, with the queue, or with a copy of it.
func TestResultsAreNew(t *testing.T) {
	for _, s := range samples() {
		given := guarded(s)
		h := fill(given)
		copied := h.Clone()
		want := ask(fill(s))
		checkNew(t, ask(h))
		checkNew(t, drained(h.Clone()))
		if got := ask(h); !sameEvents(got, want) {
			t.Error(s, got, want)
		}
		taken := drained(h)
		kept := ask(copied)
		if len(taken) != copied.Len() || !sameEvents(kept, want) {
			t.Error(s, taken, kept)
		}
		checkNew(t, append(taken, kept...))
		if got := ask(copied); !sameEvents(got, want) || h.Len() != 0 {
			t.Error(s, got, want)
		}
		if !intact(s, given) {
			t.Error(s, "a result shares memory with an argument")
		}
	}
}

// TestListsAreNew: the list that Batch returns is none that it returned before.
func TestListsAreNew(t *testing.T) {
	h := filled(event(at(1), 1), event(at(1), 2), event(at(2), 3), event(at(2), 4))
	copied := h.Clone()
	first := h.Batch()
	clear(first[:cap(first)])
	second := h.Batch()
	clear(first[:cap(first)])
	if !sameEvents(second, []api.Event{event(at(2), 3), event(at(2), 4)}) {
		t.Error(second)
	}
	clear(second[:cap(second)])
	if got := copied.Batch(); !sameEvents(got, []api.Event{event(at(1), 1), event(at(1), 2)}) {
		t.Error(got)
	}
}

// wider is a with limbs on top, which are 0; a 0 says that it is below 0.
func wider(a api.Int, limbs int) api.Int {
	return api.Int{Neg: a.Neg || len(a.L) == 0, L: append(slices.Clone(a.L), make([]uint32, limbs)...)}
}

// extended is a times the factor of the i-th form.
func extended(a api.Int, i int) api.Int {
	return whole.Mul(a, whole.Of([]int{1, 2, -1, -6}[i%4]))
}

// formRat is a in the i-th of several forms in which it may be passed: as it stands, not in lowest terms, with both signs turned, with zero limbs, with a D of 0.
func formRat(a api.Rat, i int) api.Rat {
	if n := noughts(); i%5 == 4 && sameInt(a.D, whole.Of(1)) {
		return api.Rat{Int: wider(a.Int, i%3), D: n[i%len(n)]}
	}
	return api.Rat{Int: wider(extended(a.Int, i), i%3), D: wider(extended(a.D, i), i%2)}
}

// formAlg is a in the i-th of such forms.
func formAlg(a api.Alg, i int) api.Alg {
	out := api.Alg{P: api.Poly{}, Lo: formRat(a.Lo, i), Hi: formRat(a.Hi, i+1)}
	for _, x := range a.P {
		out.P = append(out.P, wider(x, i%3))
	}
	out.P = append(out.P, []api.Poly{nil, {{}}, noughts()}[i%3]...)
	return out
}

// TestForms: nil and an empty list are equivalent, and so are the normal form of a time and every other one.
func TestForms(t *testing.T) {
	for _, s := range samples() {
		want := ask(fill(s))
		for _, e := range want {
			if !sameEvent(e, result(e)) {
				t.Error(s, e)
			}
		}
		for i := range 20 {
			var form input
			for k, e := range s.events {
				form.events = append(form.events, api.Event{Tag: e.Tag, At: formAlg(e.At, i+k)})
			}
			for k, a := range s.times {
				form.times = append(form.times, formAlg(a, i+k+1))
			}
			if got := ask(fill(form)); !sameEvents(got, want) {
				t.Error(s, form, got, want)
			}
		}
	}
}

// TestOrderOfCalls: an answer depends neither on calls on other queues nor on what was asked before.
func TestOrderOfCalls(t *testing.T) {
	var heaps []*heap.Heap
	var want [][]api.Event
	for _, s := range samples() {
		want = append(want, ask(fill(s)))
		heaps = append(heaps, fill(s))
	}
	for i, h := range slices.Backward(heaps) {
		for range 2 {
			if got := ask(h); !sameEvents(got, want[i]) {
				t.Error(i, got, want[i])
			}
		}
		if got := drained(h); !sameEvents(got, want[i][len(want[i])-len(got):]) {
			t.Error(i, got, want[i])
		}
	}
}
