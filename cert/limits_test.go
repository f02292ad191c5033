package cert_test

import (
	"testing"

	"orrery/alg"
	"orrery/api"
	"orrery/cert"
	"orrery/germ"
	"orrery/isolate"
)

// longPoints have curves of degree MaxDeg with numbers of size limbs.
func (d *draw) longPoints(size int) []api.Point {
	var out []api.Point
	for i := range 4 {
		c := api.Curve{X: d.long(api.MaxDeg+1, size), Y: d.long(1+d.next(api.MaxDeg+1), size), D: d.limbs(size)}
		out = append(out, api.Point{Curve: c, Id: api.MaxId - i})
	}
	return out
}

// TestLong has curves of degree MaxDeg with numbers of MaxLimbs limbs, and times that are roots of long polynomials.
func TestLong(t *testing.T) {
	var d draw = 77
	for _, size := range []int{1, api.MaxSize, api.MaxLimbs} {
		p := d.longPoints(size)
		times, _ := isolate.Roots(d.long(4, size))
		for _, at := range append(times, alg.Of(api.Rat{Int: d.limbs(size), D: d.limbs(size)})) {
			for _, kind := range kinds() {
				c, err := cert.Make(kind, at, p[:sizes()[kind]]...)
				if want := wantPoly(kind, p...).poly(); err != api.OK || !same(c.P, want) || c.Want != germ.At(want, at) || !cert.Holds(c, at) {
					t.Error(size, kind, c, err)
				}
				checkNext(t, c, at)
			}
		}
	}
}

// checkNext holds Fails and Event against the next turn of the polynomial.
func checkNext(t *testing.T, c api.Cert, at api.Alg) {
	t.Helper()
	want, wanted := germ.Next(c.P, at)
	a, ok := cert.Fails(c, at)
	e, also := cert.Event(c, at)
	if ok != wanted || also != wanted || ok && (alg.Cmp(a, want) != 0 || alg.Cmp(e.At, want) != 0 || e.Tag != c.Tag) {
		t.Error(c, at, a, ok, e, also)
	}
	if ok && (cert.Holds(c, a) || alg.Cmp(a, at) <= 0) {
		t.Error(c, at, a)
	}
}

// TestLongPolys: the polynomial of a certificate that is passed may have MaxTerms coefficients.
func TestLongPolys(t *testing.T) {
	var d draw = 6
	for _, size := range []int{1, 4} {
		c := api.Cert{Tag: api.Tag{Kind: 5, Ids: [4]int{1, 2, 3, 4}}, P: d.long(api.MaxTerms, size)}
		now := alg.Of(fraction(-9, 1))
		c.Want = germ.At(c.P, now)
		for e, ok := cert.Event(c, now); ok; e, ok = cert.Event(c, now) {
			checkNext(t, c, now)
			now, c.Want = e.At, -c.Want
		}
		if !cert.Holds(c, now) {
			t.Error(c, now)
		}
	}
}

// TestLongList: equal tags remain in their order in a long list, too.
func TestLongList(t *testing.T) {
	var d draw = 19
	l := make([]api.Cert, 5000)
	for i := range l {
		l[i] = api.Cert{Tag: api.Tag{Kind: 1 + i*i%5, Ids: [4]int{d.next(3), d.next(3)}}, Want: i}
	}
	got := cert.Sort(l...)
	for i, c := range got[1:] {
		last := got[i]
		if less(c.Tag, last.Tag) || c.Tag == last.Tag && c.Want < last.Want {
			t.Error(last, c)
		}
	}
	if len(got) != len(l) {
		t.Error(len(got))
	}
}
