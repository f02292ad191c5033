package cert_test

import (
	"math"
	"slices"
	"testing"

	"orrery/api"
	"orrery/cert"
)

// numbersOf are a tag's kind and names, in the order in which they count.
func numbersOf(t api.Tag) []int {
	return []int{t.Kind, t.Ids[0], t.Ids[1], t.Ids[2], t.Ids[3]}
}

// less tells whether the first number in which both differ is the less one in a.
func less(a, b api.Tag) bool {
	p, q := numbersOf(a), numbersOf(b)
	for i := range p {
		if p[i] != q[i] {
			return p[i] < q[i]
		}
	}
	return false
}

// tags are all tags of a few numbers.
func tags() []api.Tag {
	var out []api.Tag
	l := []int{-1, 0, 2}
	for i := range 3 * 3 * 3 * 3 * 3 {
		out = append(out, api.Tag{Kind: l[i%3], Ids: [4]int{l[i/3%3], l[i/9%3], l[i/27%3], l[i/81]}})
	}
	return out
}

func TestLess(t *testing.T) {
	l := tags()
	for _, a := range l {
		for _, b := range l {
			if got, want := cert.Less(a, b), less(a, b); got != want {
				t.Fatal(a, b, got, want)
			}
		}
	}
	for _, c := range [][2]api.Tag{
		{{Kind: 1, Ids: [4]int{9, 9, 9, 9}}, {Kind: 2}},
		{{Ids: [4]int{1, 9, 9, 9}}, {Ids: [4]int{2}}},
		{{Kind: math.MinInt}, {Kind: math.MaxInt}},
		{{Ids: [4]int{0, 0, 0, math.MinInt}}, {Ids: [4]int{0, 0, 0, math.MaxInt}}},
		{{Ids: [4]int{math.MinInt, 5}}, {Ids: [4]int{math.MaxInt, 1}}},
	} {
		if !cert.Less(c[0], c[1]) || cert.Less(c[1], c[0]) || cert.Less(c[0], c[0]) {
			t.Error(c)
		}
	}
}

// wantSort is the list sorted by putting each one behind all that are not greater.
func wantSort(l []api.Cert) []api.Cert {
	var out []api.Cert
	for _, c := range l {
		i := len(out)
		for i > 0 && less(c.Tag, out[i-1].Tag) {
			i--
		}
		out = slices.Insert(out, i, c)
	}
	return out
}

// TestSort: the lists have many certificates with equal tags, which their polynomials and signs tell apart.
func TestSort(t *testing.T) {
	var d draw = 61
	l := tags()
	for i := range 300 {
		var given []api.Cert
		few := 1 + d.next(len(l))
		for k := range d.next(60) {
			given = append(given, api.Cert{Tag: l[d.next(few)*7%len(l)], P: raw(int64(k), 1), Want: i - 150})
		}
		want := wantSort(given)
		for k := range given {
			given[k].P = formPoly(given[k].P, i)
		}
		if got := cert.Sort(given...); !slices.EqualFunc(got, want, sameCert) {
			t.Fatal(given, got, want)
		}
	}
}

// TestSortKnown: no argument, one, several; the polynomials become normal, all else stays.
func TestSortKnown(t *testing.T) {
	if got := cert.Sort(); len(got) != 0 {
		t.Error(got)
	}
	a := api.Cert{Tag: api.Tag{Kind: 2, Ids: [4]int{3, 1}}, P: raw(0, 0), Want: 1}
	b := api.Cert{Tag: api.Tag{Kind: 2, Ids: [4]int{1, 3}}, P: raw(7, 0), Want: -9}
	c := api.Cert{Tag: api.Tag{Kind: 1, Ids: [4]int{8, 8, 8, 8}}, P: api.Poly{{Neg: true, L: []uint32{4, 0}}, {Neg: true}}, Want: math.MaxInt}
	e := api.Cert{Tag: b.Tag, P: raw(5)}
	got := cert.Sort(a, b, c, e)
	want := []api.Cert{
		{Tag: c.Tag, P: raw(-4), Want: math.MaxInt}, {Tag: b.Tag, P: raw(7), Want: -9}, {Tag: b.Tag, P: raw(5)}, {Tag: a.Tag, Want: 1},
	}
	if !slices.EqualFunc(got, want, sameCert) {
		t.Error(got)
	}
	if got := cert.Sort(a); len(got) != 1 || !sameCert(got[0], want[3]) {
		t.Error(got)
	}
	// Certificates promote what their tags have.
	slices.SortStableFunc(want, func(a, b api.Cert) int { return b.Kind - a.Kind })
	if want[3].Ids[0] != 8 {
		t.Error(want)
	}
}
