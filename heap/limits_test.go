package heap_test

import (
	"slices"
	"testing"

	"orrery/alg"
	"orrery/api"
	"orrery/heap"
	"orrery/isolate"
)

// TestLong has times that are roots of polynomials at the limits, each of them in a wide and in a short interval.
func TestLong(t *testing.T) {
	var d draw = 77
	for _, size := range [][2]int{{api.MaxTerms, 1}, {9, api.MaxLimbs}} {
		times, err := isolate.Roots(d.long(size[0], size[1]))
		if err != api.OK || len(times) == 0 {
			t.Fatal(size, times, err)
		}
		var want []api.Event
		h := heap.New()
		for i, a := range slices.Backward(times) {
			h.Push(event(a, 2, i))
			h.Push(event(alg.Refine(a, 200), 1, i))
		}
		for i, a := range times {
			want = append(want, event(alg.Refine(a, 200), 1, i), event(a, 2, i))
		}
		for i := range times {
			if got := h.Batch(); !sameEvents(got, want[2*i:2*i+2]) {
				t.Error(size, got, want[2*i:])
			}
		}
		if h.Len() != 0 {
			t.Error(size, h.Len())
		}
	}
}

// TestMany: a queue of many events.
func TestMany(t *testing.T) {
	var d draw = 3
	const many = 4000
	h := heap.New()
	for i := range many {
		if got := h.Push(event(at(d.next(500)), d.next(3), d.next(2))); got != i+1 {
			t.Fatal(got)
		}
	}
	for range many / 2 {
		h.Set(1+d.next(many), at(d.next(500)))
		h.Drop(1 + d.next(many))
	}
	n := h.Len()
	if n <= many/2 || n >= many {
		t.Error(n)
	}
	for last := at(-1); h.Len() > 0; {
		got := h.Batch()
		n -= len(got)
		if len(got) == 0 || h.Len() != n || alg.Cmp(last, got[0].At) >= 0 {
			t.Fatal(last, got)
		}
		for i, e := range got[1:] {
			if slices.Compare(numbersOf(got[i].Tag), numbersOf(e.Tag)) > 0 || alg.Cmp(got[i].At, e.At) != 0 {
				t.Fatal(got)
			}
		}
		last = got[0].At
	}
}
