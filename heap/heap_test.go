package heap_test

import (
	"math"
	"slices"
	"testing"

	"orrery/alg"
	"orrery/api"
	"orrery/heap"
	"orrery/poly"
)

// filled is a queue of these events, which have the handles from 1 on.
func filled(l ...api.Event) *heap.Heap {
	h := heap.New()
	for _, e := range l {
		h.Push(e)
	}
	return h
}

// TestExample: of events at the times 2, 1, 1 a batch has two.
func TestExample(t *testing.T) {
	h := filled(event(at(2), 1, 5, 6), event(at(1), 1, 7, 8), event(at(1), 1, 5, 8))
	if got := h.Batch(); !sameEvents(got, []api.Event{event(at(1), 1, 5, 8), event(at(1), 1, 7, 8)}) || h.Len() != 1 {
		t.Error(got, h.Len())
	}
	if got := h.Batch(); !sameEvents(got, []api.Event{event(at(2), 1, 5, 6)}) || h.Len() != 0 {
		t.Error(got, h.Len())
	}
}

// TestEmpty: a new queue, and one that has become empty, has nothing.
func TestEmpty(t *testing.T) {
	dropped, taken := filled(event(at(1), 2)), filled(event(at(1), 2))
	dropped.Drop(1)
	taken.Batch()
	for i, h := range []*heap.Heap{heap.New(), dropped, taken, heap.New().Clone(), dropped.Clone()} {
		e, ok := h.Least()
		if ok || !sameEvent(e, api.Event{}) || len(h.Batch()) != 0 || h.Len() != 0 {
			t.Error(i, e, ok, h.Len())
		}
		for _, handle := range []int{math.MinInt, -1, 0, 1, 2, math.MaxInt} {
			if e, ok := h.Get(handle); ok || !sameEvent(e, api.Event{}) || h.Drop(handle) || h.Set(handle, at(3)) {
				t.Error(i, handle, e, ok)
			}
		}
		if h.Len() != 0 {
			t.Error(i, h.Len())
		}
	}
}

// TestHandles: they rise by 1, and none is given a second time.
func TestHandles(t *testing.T) {
	h := heap.New()
	e := event(at(4), 1, 2, 3)
	for want := 1; want <= 40; want++ {
		if got := h.Push(e); got != want {
			t.Fatal(got, want)
		}
		switch want % 4 {
		case 0:
			h.Batch()
		case 1:
			h.Drop(want)
		case 2:
			h.Drop(want + 1)
			h.Set(want+1, at(1))
			h.Get(want + 1)
		case 3:
			h = h.Clone()
		}
	}
	if other := heap.New(); other.Push(e) != 1 || other.Clone().Push(e) != 2 || other.Push(e) != 2 {
		t.Error("handles of another queue")
	}
}

// TestWrongHandles: a handle that there is not, not yet, or no more changes nothing.
func TestWrongHandles(t *testing.T) {
	h, m := heap.New(), &model{}
	for _, x := range numbers()[:12] {
		h.Push(event(x.a, 3, 1, 2, 3))
		m.push(event(x.a, 3, 1, 2, 3), x.at)
	}
	h.Drop(5)
	m.drop(5)
	if got, want := h.Batch(), m.batch(); len(got) != 2 || !sameEvents(got, want) {
		t.Fatal(got, want)
	}
	for _, handle := range []int{math.MinInt, -5, -1, 0, 1, 2, 5, 13, 14, 1 << 32, 1<<32 + 3, math.MaxInt} {
		e, ok := h.Get(handle)
		if ok || !sameEvent(e, api.Event{}) || h.Drop(handle) || h.Set(handle, at(-100)) {
			t.Error(handle, e, ok)
		}
		check(t, h, m)
	}
	drain(t, h, m)
}

// TestOrder: events with one time come by Kind, by the names from the first one on, then by handle, wherever they stood in the queue.
func TestOrder(t *testing.T) {
	tags := []api.Tag{
		{Kind: math.MinInt, Ids: [4]int{9, 9, 9, 9}}, {}, {Ids: [4]int{0, 0, 0, 1}}, {Ids: [4]int{0, 0, 1, 0}}, {Ids: [4]int{0, 1, 0, 0}},
		{Kind: 1, Ids: [4]int{-3, 5, 5, 5}}, {Kind: 1, Ids: [4]int{2, 10}}, {Kind: 1, Ids: [4]int{10, 2}}, {Kind: 2}, {Kind: math.MaxInt, Ids: [4]int{-9}},
	}
	times := []api.Alg{root(2), alg.Refine(root(2), 50), {P: poly.Of(0, 6, -2, -3, 1), Lo: fraction(1, 1), Hi: fraction(3, 2)}}
	var d draw = 8
	for range 40 {
		var given, want []api.Event
		for i := range 30 {
			given = append(given, api.Event{Tag: tags[i%10], At: times[i/10]})
		}
		for i := range given {
			k := d.next(i + 1)
			given[i], given[k] = given[k], given[i]
		}
		// Equal tags stay in the order in which they were pushed: the time's form is nothing to the order.
		for _, tag := range tags {
			for _, e := range given {
				if e.Tag == tag {
					want = append(want, e)
				}
			}
		}
		h := filled(given...)
		if e, ok := h.Least(); !ok || !sameEvent(e, want[0]) {
			t.Fatal(e, ok)
		}
		if got := h.Batch(); !sameEvents(got, want) || h.Len() != 0 {
			t.Fatal(got, want)
		}
	}
}

// TestTimes: the time comes ahead of all else, also where times are close together.
func TestTimes(t *testing.T) {
	// From the square root of 2 to 3/2, the last one with the least tag and the first one with the least handle.
	near := []api.Alg{
		root(2),
		{P: api.Poly{{Neg: true, L: []uint32{1, 0, 2}}, {}, {L: []uint32{0, 0, 1}}}, Lo: fraction(1, 1), Hi: fraction(2, 1)},
		alg.Of(fraction(3037000500, 1<<31)), alg.Of(fraction(3, 2)),
	}
	h := heap.New()
	for i, a := range near {
		h.Push(event(a, 9-i))
	}
	for i, a := range near {
		want := result(event(a, 9-i))
		if e, ok := h.Least(); !ok || !sameEvent(e, want) {
			t.Error(i, e, ok)
		}
		if got := h.Batch(); !sameEvents(got, []api.Event{want}) {
			t.Error(i, got)
		}
	}
}

// TestSet: the tag and the handle stay, the place in the queue follows the time, to both sides.
func TestSet(t *testing.T) {
	var l []api.Event
	for i := range 20 {
		l = append(l, event(at(10*i), 1, i))
	}
	for i := range 20 {
		for time := -5; time < 200; time += 11 {
			h := filled(l...)
			if !h.Set(i+1, at(time)) || h.Len() != 20 {
				t.Fatal(i, time)
			}
			want := slices.Clone(l)
			want[i].At = at(time)
			if e, ok := h.Get(i + 1); !ok || !sameEvent(e, want[i]) {
				t.Error(i, time, e)
			}
			slices.SortStableFunc(want, func(a, b api.Event) int { return alg.Cmp(a.At, b.At) })
			if got := drained(h); !sameEvents(got, want) {
				t.Error(i, time, got)
			}
		}
	}
}

// TestSetMeets: a time that is set may be that of other events, and may be the one that there was.
func TestSetMeets(t *testing.T) {
	h := filled(event(at(7), 1, 2), event(root(2), 1, 3), event(at(0), 1, 1), event(at(0), 1, 1))
	if !h.Set(1, alg.Refine(root(2), 9)) || !h.Set(3, root(2)) || !h.Set(2, root(2)) || !h.Set(4, at(0)) {
		t.Error("Set")
	}
	if got := h.Batch(); !sameEvents(got, []api.Event{event(at(0), 1, 1)}) || h.Set(4, at(0)) || h.Len() != 3 {
		t.Error(got, h.Len())
	}
	if got := h.Batch(); !sameEvents(got, []api.Event{event(root(2), 1, 1), event(alg.Refine(root(2), 9), 1, 2), event(root(2), 1, 3)}) {
		t.Error(got)
	}
}

// TestDrop takes each event out of a queue.
func TestDrop(t *testing.T) {
	var d draw = 4
	for n := 1; n < 24; n++ {
		for i := range n {
			var want []api.Event
			h := heap.New()
			for k := range n {
				e := event(at(d.next(9)), 1, k)
				h.Push(e)
				if k != i {
					want = append(want, e)
				}
			}
			slices.SortStableFunc(want, func(a, b api.Event) int { return alg.Cmp(a.At, b.At) })
			if !h.Drop(i+1) || h.Drop(i+1) || h.Len() != n-1 {
				t.Fatal(n, i)
			}
			if got := drained(h); !sameEvents(got, want) {
				t.Fatal(n, i, got)
			}
		}
	}
}

// drained is all that h has, batch after batch.
func drained(h *heap.Heap) []api.Event {
	var out []api.Event
	for h.Len() > 0 {
		out = append(out, h.Batch()...)
	}
	return out
}

// TestPromoted: an event has what its tag has.
func TestPromoted(t *testing.T) {
	h := filled(event(at(1), 4, 1, 2, 3, 4))
	if e, ok := h.Least(); !ok || e.Kind != api.InCircle || e.Ids != [4]int{1, 2, 3, 4} || alg.CmpRat(e.At, fraction(1, 1)) != 0 {
		t.Error(e, ok)
	}
}
