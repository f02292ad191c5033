package heap_test

import (
	"math"
	"slices"

	"orrery/api"
	"orrery/poly"
	"orrery/ratio"
	"orrery/whole"
)

const all = math.MaxUint32

// fraction is n / d as it stands.
func fraction(n, d int) api.Rat {
	return api.Rat{Int: whole.Of(n), D: whole.Of(d)}
}

// result is the event in the form of a result.
func result(e api.Event) api.Event {
	return api.Event{Tag: e.Tag, At: api.Alg{P: poly.Norm(e.At.P), Lo: ratio.Max(e.At.Lo), Hi: ratio.Max(e.At.Hi)}}
}

// sameInt tells whether both are one list and one sign, so that only a normal number is the same as a normal one.
func sameInt(a, b api.Int) bool {
	return a.Neg == b.Neg && slices.Equal(a.L, b.L)
}

func sameRat(a, b api.Rat) bool {
	return sameInt(a.Int, b.Int) && sameInt(a.D, b.D)
}

func sameEvent(a, b api.Event) bool {
	return a.Tag == b.Tag && slices.EqualFunc(a.At.P, b.At.P, sameInt) && sameRat(a.At.Lo, b.At.Lo) && sameRat(a.At.Hi, b.At.Hi)
}

func sameEvents(a, b []api.Event) bool {
	return slices.EqualFunc(a, b, sameEvent)
}

// numbersOf are the numbers of a tag in the order in which they count.
func numbersOf(t api.Tag) []int {
	return []int{t.Kind, t.Ids[0], t.Ids[1], t.Ids[2], t.Ids[3]}
}

// draw gives numbers from a fixed row.
type draw uint64

func (d *draw) next(below int) int {
	*d = *d*6364136223846793005 + 1442695040888963407
	return int(uint64(*d) >> 33 % uint64(below))
}

// long has terms coefficients of size limbs.
func (d *draw) long(terms, size int) api.Poly {
	var out api.Poly
	for range terms {
		a := api.Int{Neg: d.next(2) == 1, L: []uint32{all}}
		for range size - 1 {
			a.L = append(a.L, uint32(1+d.next(all)))
		}
		out = append(out, a)
	}
	return out
}

// noughts are forms of the integer 0.
func noughts() []api.Int {
	return []api.Int{{}, {Neg: true}, {L: []uint32{}}, {L: []uint32{0}}, {Neg: true, L: []uint32{0, 0}}}
}
