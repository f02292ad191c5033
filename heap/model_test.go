package heap_test

import (
	"cmp"
	"math"
	"slices"
	"testing"

	"orrery/api"
	"orrery/heap"
)

// entry is an event in a model of a queue; at is where its time lies.
type entry struct {
	handle int
	event  api.Event
	at     place
}

// model is a queue that is searched from end to end.
type model struct {
	entries []entry
	last    int
}

func (m *model) push(e api.Event, at place) int {
	m.last++
	m.entries = append(m.entries, entry{m.last, result(e), at})
	return m.last
}

// find is the index of a handle, -1 if there is none.
func (m *model) find(handle int) int {
	return slices.IndexFunc(m.entries, func(x entry) bool { return x.handle == handle })
}

func (m *model) drop(handle int) bool {
	i := m.find(handle)
	if i >= 0 {
		m.entries = slices.Delete(m.entries, i, i+1)
	}
	return i >= 0
}

func (m *model) set(handle int, x number) bool {
	i := m.find(handle)
	if i >= 0 {
		e := &m.entries[i]
		e.event, e.at = result(api.Event{Tag: e.event.Tag, At: x.a}), x.at
	}
	return i >= 0
}

// first are all entries with the least time, in their order.
func (m *model) first() []entry {
	var out []entry
	for _, x := range m.entries {
		switch {
		case len(out) == 0 || x.at.Cmp(out[0].at) < 0:
			out = []entry{x}
		case x.at.Cmp(out[0].at) == 0:
			out = append(out, x)
		}
	}
	slices.SortFunc(out, func(a, b entry) int {
		return cmp.Or(slices.Compare(numbersOf(a.event.Tag), numbersOf(b.event.Tag)), a.handle-b.handle)
	})
	return out
}

func (m *model) batch() []api.Event {
	var out []api.Event
	for _, x := range m.first() {
		out = append(out, x.event)
		m.drop(x.handle)
	}
	return out
}

func (m *model) clone() *model {
	return &model{slices.Clone(m.entries), m.last}
}

// check holds all that can be asked of h without a change against m.
func check(t *testing.T, h *heap.Heap, m *model) {
	t.Helper()
	if h.Len() != len(m.entries) {
		t.Fatal("Len", h.Len(), len(m.entries))
	}
	got, ok := h.Least()
	if want := m.first(); ok != (len(want) > 0) || ok && !sameEvent(got, want[0].event) || !ok && !sameEvent(got, api.Event{}) {
		t.Fatal("Least", got, ok, want)
	}
	for _, handle := range []int{math.MinInt, -1, 0, m.last + 1, m.last + 2, math.MaxInt} {
		checkGet(t, h, m, handle)
	}
	for handle := range m.last {
		checkGet(t, h, m, handle+1)
	}
}

func checkGet(t *testing.T, h *heap.Heap, m *model, handle int) {
	t.Helper()
	got, ok := h.Get(handle)
	i := m.find(handle)
	if ok != (i >= 0) || ok && !sameEvent(got, m.entries[i].event) || !ok && !sameEvent(got, api.Event{}) {
		t.Fatal("Get", handle, got, ok, i)
	}
}

// drain takes everything out of copies of h and m, batch by batch.
func drain(t *testing.T, h *heap.Heap, m *model) {
	t.Helper()
	h, m = h.Clone(), m.clone()
	for len(m.entries) > 0 {
		if got, want := h.Batch(), m.batch(); !sameEvents(got, want) {
			t.Fatal("Batch", got, want)
		}
		check(t, h, m)
	}
	if got := h.Batch(); len(got) != 0 {
		t.Fatal("Batch", got)
	}
	if got := h.Push(event(at(1), 1)); got != m.last+1 {
		t.Fatal("Push", got, m.last)
	}
}

// step does the same to h and to m.
func (d *draw) step(t *testing.T, h *heap.Heap, m *model, l []number) {
	t.Helper()
	x := l[d.next(len(l))]
	switch d.next(8) {
	case 0, 1, 2, 3:
		e := event(x.a, d.next(3), d.next(3), d.next(2), -d.next(2), d.next(2))
		if got, want := h.Push(e), m.push(e, x.at); got != want {
			t.Fatal("Push", got, want)
		}
	case 4:
		handle := d.next(m.last + 3)
		if got, want := h.Drop(handle), m.drop(handle); got != want {
			t.Fatal("Drop", handle, got, want)
		}
	case 5, 6:
		handle := d.next(m.last + 3)
		if got, want := h.Set(handle, x.a), m.set(handle, x); got != want {
			t.Fatal("Set", handle, got, want)
		}
	case 7:
		if d.next(3) == 0 {
			if got, want := h.Batch(), m.batch(); !sameEvents(got, want) {
				t.Fatal("Batch", got, want)
			}
		}
	}
}

// TestDrawn holds drawn calls against the model, with few different times and with many.
func TestDrawn(t *testing.T) {
	var d draw = 16
	for i := range 60 {
		l := numbers()
		for range i % 5 * 8 {
			l = slices.Delete(l, 0, 1)
		}
		if i%4 == 3 {
			l = l[:3]
		}
		h, m := heap.New(), &model{}
		check(t, h, m)
		for range 60 {
			d.step(t, h, m, l)
			check(t, h, m)
		}
		drain(t, h, m)
		check(t, h, m)
	}
}

// TestClones: what is done to a queue is nothing to its copies, nor the other way round.
func TestClones(t *testing.T) {
	var d draw = 61
	l := numbers()
	for range 12 {
		h, m := heap.New(), &model{}
		var copies []*heap.Heap
		var models []*model
		for range 30 {
			d.step(t, h, m, l)
			copies, models = append(copies, h.Clone()), append(models, m.clone())
			k := d.next(len(copies))
			d.step(t, copies[k], models[k], l)
		}
		for i := range copies {
			check(t, copies[i], models[i])
			drain(t, copies[i], models[i])
		}
		check(t, h, m)
	}
}
