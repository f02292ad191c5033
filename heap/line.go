package heap

import (
	"orrery/alg"
	"orrery/api"
	"orrery/cert"
)

// item is an event of a queue, with its handle and its place in the line.
type item struct {
	api.Event
	handle, place int
}

// before tells whether x comes out of the queue ahead of y. No two events have one handle, so one of them always does.
func (x *item) before(y *item) bool {
	switch c := alg.Cmp(x.At, y.At); {
	case c != 0:
		return c < 0
	case x.Tag != y.Tag:
		return cert.Less(x.Tag, y.Tag)
	}
	return x.handle < y.handle
}

// line has the events in the order that the library's heap gives them. Its methods are those that this heap asks for.
type line []*item

func (l line) Len() int {
	return len(l)
}

func (l line) Less(i, k int) bool {
	return l[i].before(l[k])
}

func (l line) Swap(i, k int) {
	l[i], l[k] = l[k], l[i]
	l[i].place, l[k].place = i, k
}

func (l *line) Push(x any) {
	*l = append(*l, x.(*item))
}

func (l *line) Pop() any {
	last := len(*l) - 1
	x := (*l)[last]
	// What is removed is not to be kept by the memory behind the line.
	(*l)[last] = nil
	*l = (*l)[:last]
	return x
}
