package cert_test

import (
	"math/big"
	"testing"

	"orrery/alg"
	"orrery/api"
	"orrery/cert"
	"orrery/germ"
	"orrery/isolate"
)

// known is a polynomial whose real roots are known.
type known struct {
	r     row
	roots []place
}

// knowns have rational roots, square roots, or none.
func knowns() []known {
	out := []known{
		{rowOf(raw(1, 0, 1), one(1)), nil},
		{rowOf(raw(-3, 1, -1), one(1)), nil},
		{rowOf(raw(-4), one(1)), nil},
	}
	for _, x := range [][2]int64{{0, 1}, {1, 1}, {-1, 1}, {2, 1}, {3, 2}, {-5, 2}, {-1, 3}, {7, 1}} {
		out = append(out, known{rowOf(raw(-x[0], x[1]), one(1)), []place{placeOf(big.NewRat(x[0], x[1]))}})
	}
	for _, n := range []int64{2, 3, 5} {
		out = append(out, known{rowOf(raw(-n, 0, 1), one(1)), []place{big.NewRat(-n, 1), big.NewRat(n, 1)}})
	}
	return out
}

// product is a polynomial, and how often each place is a root of it.
type product struct {
	r     row
	times map[string]int
	roots []place
}

func (p *product) multiply(k known) {
	p.r = p.r.times(k.r)
	for _, x := range k.roots {
		if p.times[x.RatString()] == 0 {
			p.roots = append(p.roots, x)
		}
		p.times[x.RatString()]++
	}
}

// next is the least place above at that is a root an odd number of times, and true; false if there is none.
func (p product) next(at place) (place, bool) {
	var out place
	for _, x := range p.roots {
		if p.times[x.RatString()]%2 == 1 && x.Cmp(at) > 0 && (out == nil || x.Cmp(out) < 0) {
			out = x
		}
	}
	return out, out != nil
}

// product is a product of a few factors, some of them more than once.
func (d *draw) product() product {
	l := knowns()
	out := product{rowOf(raw(1), one(1)), map[string]int{}, nil}
	for range d.next(6) {
		k := l[d.next(len(l))]
		for range 1 + d.next(4) {
			out.multiply(k)
		}
	}
	return out
}

// isAt tells whether a is a Valid number in the form of a result, and it lies at this place.
func isAt(a api.Alg, at place) bool {
	lo, hi := placeOf(bigRat(a.Lo)), placeOf(bigRat(a.Hi))
	if !sameRat(a.Lo, ratOf(bigRat(a.Lo))) || !sameRat(a.Hi, ratOf(bigRat(a.Hi))) || !same(a.P, rowOf(a.P, one(1)).poly()) || !isolate.Valid(a) {
		return false
	}
	if lo.Cmp(hi) == 0 {
		return at.Cmp(lo) == 0
	}
	return lo.Cmp(at) < 0 && at.Cmp(hi) <= 0 && signAt(rowOf(a.P, one(1)), at) == 0
}

// checkFails holds Holds, Fails and Event against the known roots.
func checkFails(t *testing.T, c api.Cert, p product, at number) {
	t.Helper()
	if got, want := cert.Holds(c, at.a), after(p.r, at.at) == c.Want; got != want {
		t.Error("Holds", c, at, got, want)
	}
	want, wanted := p.next(at.at)
	got, ok := cert.Fails(c, at.a)
	if ok != wanted || ok && !isAt(got, want) || !ok && !sameAlg(got, api.Alg{}) {
		t.Error("Fails", c, at, got, ok, want)
	}
	e, ok := cert.Event(c, at.a)
	if ok != wanted || ok && (e.Tag != c.Tag || !isAt(e.At, want)) || !ok && !sameEvent(e, api.Event{}) {
		t.Error("Event", c, at, e, ok, want)
	}
}

// TestFailsDrawn: whether a certificate holds has no bearing on when its sign changes.
func TestFailsDrawn(t *testing.T) {
	var d draw = 33
	times := numbers()
	for i := range 1500 {
		p := d.product()
		c := api.Cert{Tag: api.Tag{Kind: d.next(7), Ids: [4]int{d.next(9), d.next(9) - 4, d.next(9), i}}, P: formPoly(p.r.poly(), i), Want: d.next(3) - 1}
		for range 3 {
			checkFails(t, c, p, times[d.next(len(times))])
		}
	}
}

// TestFailsKnown has the edges: the time itself is no failure, and a touch is none.
func TestFailsKnown(t *testing.T) {
	root := api.Alg{P: raw(-2, 0, 1), Lo: fraction(1, 1), Hi: fraction(2, 1)}
	for _, c := range []struct {
		p    api.Poly
		at   api.Alg
		want place
	}{
		{nil, nought(), nil},
		{raw(5), nought(), nil},
		{raw(0, 1), nought(), nil},
		{raw(0, 1), alg.Of(fraction(-1, 100)), new(big.Rat)},
		{raw(0, 0, 1), alg.Of(fraction(-1, 1)), nil},
		{raw(0, 0, 0, -1), alg.Of(fraction(-1, 1)), new(big.Rat)},
		{raw(-2, 0, 1), nought(), big.NewRat(2, 1)},
		{raw(-2, 0, 1), root, nil},
		{raw(-2, 0, 1), alg.Of(fraction(-3, 2)), big.NewRat(-2, 1)},
		// (t^2 - 2)^2 (t - 3) touches at the square roots of 2.
		{raw(-12, 4, 12, -4, -3, 1), nought(), big.NewRat(9, 1)},
		// (t - 1) (t - 2), from its first root on.
		{raw(2, -3, 1), alg.Of(fraction(1, 1)), big.NewRat(4, 1)},
		{raw(2, -3, 1), root, big.NewRat(4, 1)},
	} {
		for _, sign := range []int{-1, 0, 1} {
			given := api.Cert{Tag: api.Tag{Kind: 3, Ids: [4]int{1, 2, 3}}, P: c.p, Want: sign}
			a, ok := cert.Fails(given, c.at)
			e, also := cert.Event(given, c.at)
			if ok != (c.want != nil) || also != ok || ok && (!isAt(a, c.want) || !isAt(e.At, c.want) || e.Tag != given.Tag) {
				t.Error(c, a, ok, e, also)
			}
			if !ok && (!sameAlg(a, api.Alg{}) || !sameEvent(e, api.Event{})) {
				t.Error(c, a, e)
			}
		}
	}
}

// TestWalk: from failure to failure the sign changes each time, and in between it does not.
func TestWalk(t *testing.T) {
	var d draw = 71
	many := 0
	for range 60 {
		p := d.points(4)
		for _, kind := range kinds() {
			now := nought()
			c, err := cert.Make(kind, now, p[:sizes()[kind]]...)
			if err != api.OK || !cert.Holds(c, now) {
				t.Fatal(c, err)
			}
			for e, ok := cert.Event(c, now); ok; e, ok = cert.Event(c, now) {
				if next, found := germ.Next(c.P, now); !found || alg.Cmp(next, e.At) != 0 || alg.Cmp(e.At, now) <= 0 || e.Kind != kind || e.Ids != c.Ids {
					t.Fatal(c, now, e)
				}
				if between, err := alg.Between(now, e.At); err != api.OK || !cert.Holds(c, alg.Of(between)) || cert.Holds(c, e.At) {
					t.Fatal(c, now, e, between)
				}
				now = e.At
				c.Want = -c.Want
				many++
			}
			if far := fraction(1<<50, 1); !cert.Holds(c, now) || !cert.Holds(c, alg.Of(far)) {
				t.Fatal(c, now)
			}
		}
	}
	if many < 200 {
		t.Error(many)
	}
}
