package heap_test

import (
	"testing"

	"orrery/api"
	"orrery/heap"
	"orrery/poly"
)

// TestWrongTimes: for times that are not Valid nothing is promised but that the calls end; the numbers of handles and events are right all the same.
func TestWrongTimes(t *testing.T) {
	polys := []api.Poly{nil, {}, noughts(), poly.Of(5), poly.Of(1, 0, 1), poly.Of(-2, 0, 1), poly.Of(1, -2, 1), poly.Of(0, -6, 11, -6, 1, 0)}
	ends := []api.Rat{{}, fraction(1, 0), fraction(-9, 1), fraction(9, -1), fraction(2, 4), fraction(1<<40, 3)}
	var times []api.Alg
	for _, p := range polys {
		for _, lo := range ends {
			for _, hi := range ends {
				times = append(times, api.Alg{P: p, Lo: lo, Hi: hi})
			}
		}
	}
	var d draw = 21
	h := heap.New()
	for i := range times {
		a, b := times[(i*89+7)%len(times)], times[d.next(len(times))]
		if got := h.Push(event(a, i%2)); got != i+1 || !h.Set(1+d.next(i+1), b) {
			t.Fatal(a, b, got)
		}
		if _, ok := h.Get(i + 1); !ok || h.Len() != i+1 {
			t.Fatal(a, b, h.Len())
		}
		if _, ok := h.Least(); !ok {
			t.Fatal(a, b)
		}
	}
	n := len(times)
	for i := 0; i < len(times); i += 3 {
		if !h.Drop(i+1) || h.Drop(i+1) {
			t.Fatal(i)
		}
		n--
	}
	copied := h.Clone()
	if copied.Len() != n || len(drained(h)) != n || h.Len() != 0 || copied.Len() != n {
		t.Error(n, h.Len(), copied.Len())
	}
}

// TestWrongTags: what a tag says is read as it stands, whether or not there is such a certificate.
func TestWrongTags(t *testing.T) {
	l := []api.Event{event(at(0), -7, 3, 3, 3, 3), event(at(0), 0), event(at(0), 1, -2, -1), event(at(0), 1, -1, -2, 9, 9), event(at(0), 99, 0, 0, 0, -1)}
	h := filled(l[3], l[0], l[4], l[2], l[1])
	for i, k := range []int{3, 0, 4, 2, 1} {
		if e, ok := h.Get(i + 1); !ok || !sameEvent(e, l[k]) {
			t.Error(i, e, ok)
		}
	}
	if got := h.Batch(); !sameEvents(got, l) {
		t.Error(got)
	}
}
