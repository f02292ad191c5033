package cert_test

import (
	"math"
	"testing"

	"orrery/alg"
	"orrery/api"
	"orrery/cert"
	"orrery/curve"
)

// kinds are all kinds, sizes how many points each of them has.
func kinds() []int {
	return []int{1, 2, 3, 4, 5}
}

func sizes() []int {
	return []int{0, 2, 2, 3, 4, 4}
}

// wantCert is the certificate that Make is to return.
func wantCert(kind int, at place, p ...api.Point) api.Cert {
	r := wantPoly(kind, p...)
	out := api.Cert{Tag: api.Tag{Kind: kind}, P: r.poly(), Want: after(r, at)}
	for i, q := range p {
		out.Ids[i] = q.Id
	}
	return out
}

func checkMake(t *testing.T, kind int, at number, p ...api.Point) {
	t.Helper()
	want := wantCert(kind, at.at, p...)
	got, err := cert.Make(kind, at.a, p...)
	if err != api.OK || !sameCert(got, want) {
		t.Error(kind, at, p, got, err, want)
	}
	for _, sign := range []int{-2, -1, 0, 1, 2} {
		got.Want = sign
		if cert.Holds(got, at.a) != (sign == want.Want) {
			t.Error(kind, at, p, sign, want)
		}
	}
}

// still is a constant point.
func still(id, x, y int) api.Point {
	return api.Point{Curve: curve.Still(x, y), Id: id}
}

// moving is a point on the way x, y.
func moving(id int, x, y api.Poly) api.Point {
	return api.Point{Curve: curve.Of(x, y), Id: id}
}

// nought is the time 0.
func nought() api.Alg {
	return alg.Of(fraction(0, 1))
}

// TestExample: the certificate of two constant points.
func TestExample(t *testing.T) {
	c, err := cert.Make(api.Order, nought(), still(7, 0, 0), still(4, 1, 0))
	want := api.Cert{Tag: api.Tag{Kind: 1, Ids: [4]int{7, 4, 0, 0}}, P: raw(1), Want: 1}
	if err != api.OK || !sameCert(c, want) {
		t.Error(c, err)
	}
	for _, x := range numbers() {
		if a, ok := cert.Fails(c, x.a); ok || !sameAlg(a, api.Alg{}) || !cert.Holds(c, x.a) {
			t.Error(x, a, ok)
		}
		if e, ok := cert.Event(c, x.a); ok || !sameEvent(e, api.Event{}) {
			t.Error(x, e, ok)
		}
	}
}

// TestKinds has, for each kind, certificates of each sign.
func TestKinds(t *testing.T) {
	o, x, y, xy, far := still(1, 0, 0), still(2, 1, 0), still(3, 0, 1), still(4, 1, 1), still(5, 3, 3)
	for _, c := range []struct {
		kind int
		p    []api.Point
		poly api.Poly
		want int
	}{
		{api.Order, []api.Point{o, x}, raw(1), 1},
		{api.Order, []api.Point{x, o}, raw(-1), -1},
		{api.Order, []api.Point{x, y}, raw(-1), -1},
		// One X: the lower one is first.
		{api.Order, []api.Point{o, y}, raw(1), 1},
		{api.Order, []api.Point{y, o}, raw(-1), -1},
		{api.Order, []api.Point{far, far}, nil, 0},
		{api.Match, []api.Point{y, x}, raw(1), 1},
		{api.Match, []api.Point{far, x}, raw(3), 1},
		{api.Match, []api.Point{x, far}, raw(-3), -1},
		// One Y: the right one wins.
		{api.Match, []api.Point{o, x}, raw(-1), -1},
		{api.Match, []api.Point{far, moving(9, raw(1), raw(3))}, raw(2), 1},
		{api.Match, []api.Point{o, o}, nil, 0},
		{api.Orient, []api.Point{o, x, y}, raw(1), 1},
		{api.Orient, []api.Point{o, y, x}, raw(-1), -1},
		{api.Orient, []api.Point{o, xy, far}, nil, 0},
		{api.InCircle, []api.Point{o, x, y, xy}, nil, 0},
		{api.InCircle, []api.Point{o, x, y, far}, raw(-12), -1},
		{api.InCircle, []api.Point{o, y, x, far}, raw(12), 1},
		{api.Dist, []api.Point{o, x, y, xy}, nil, 0},
		{api.Dist, []api.Point{o, x, o, xy}, raw(1), 1},
		{api.Dist, []api.Point{o, far, x, y}, raw(-16), -1},
	} {
		want := api.Cert{Tag: api.Tag{Kind: c.kind}, P: c.poly, Want: c.want}
		for i, p := range c.p {
			want.Ids[i] = p.Id
		}
		for _, at := range numbers() {
			if got, err := cert.Make(c.kind, at.a, c.p...); err != api.OK || !sameCert(got, want) {
				t.Error(c, at, got, err)
			}
		}
	}
}

// TestMoving: Want is the sign just after the time, also where the points meet.
func TestMoving(t *testing.T) {
	root := api.Alg{P: raw(-2, 0, 1), Lo: fraction(1, 1), Hi: fraction(2, 1)}
	o := still(8, 0, 0)
	for _, c := range []struct {
		kind int
		at   api.Alg
		p    []api.Point
		poly api.Poly
		want int
	}{
		{api.Order, nought(), []api.Point{o, moving(1, raw(0, 1), raw(5))}, raw(0, 1), 1},
		{api.Order, nought(), []api.Point{o, moving(1, raw(0, 0, -1), raw(5))}, raw(0, 0, -1), -1},
		{api.Order, root, []api.Point{o, moving(1, raw(-2, 0, 1), nil)}, raw(-2, 0, 1), 1},
		{api.Order, root, []api.Point{moving(1, raw(-2, 0, 1), nil), o}, raw(2, 0, -1), -1},
		// The X are equal for ever, not only at the time.
		{api.Order, root, []api.Point{o, moving(1, nil, raw(-2, 0, 1))}, raw(-2, 0, 1), 1},
		{api.Match, root, []api.Point{o, moving(1, raw(9), raw(-2, 0, 1))}, raw(2, 0, -1), -1},
		{api.Match, root, []api.Point{o, moving(1, raw(-2, 0, 1), nil)}, raw(2, 0, -1), -1},
		{api.Match, nought(), []api.Point{o, moving(1, raw(-2, 0, 1), nil)}, raw(2, 0, -1), 1},
		{api.Orient, nought(), []api.Point{o, still(2, 1, 0), moving(1, raw(3), raw(0, 0, 1))}, raw(0, 0, 1), 1},
		{api.Dist, alg.Of(fraction(1, 1)), []api.Point{o, still(2, 1, 0), o, moving(1, raw(0, 1), nil)}, raw(-1, 0, 1), 1},
		{api.Dist, alg.Of(fraction(-1, 1)), []api.Point{o, still(2, 1, 0), o, moving(1, raw(0, 1), nil)}, raw(-1, 0, 1), -1},
	} {
		got, err := cert.Make(c.kind, c.at, c.p...)
		if err != api.OK || !same(got.P, c.poly) || got.Want != c.want {
			t.Error(c, got, err)
		}
	}
}

func TestMakeDrawn(t *testing.T) {
	var d draw = 15
	times := numbers()
	for range 300 {
		p := d.points(4)
		at := times[d.next(len(times))]
		for _, kind := range kinds() {
			checkMake(t, kind, at, p[:sizes()[kind]]...)
		}
	}
}

// coordinates are polynomials that meet, and touch, at many of the times.
func coordinates() []api.Poly {
	return []api.Poly{nil, raw(0, 1), raw(0, -1), raw(0, 0, 1), raw(2), raw(4, 0, -1), raw(1, -2, 1), raw(-1, 2), raw(-1, 1)}
}

// TestMakeMeeting has points that share an X, a Y or both, in other forms too.
func TestMakeMeeting(t *testing.T) {
	var d draw = 150
	l, times := coordinates(), numbers()
	for i := range 1500 {
		var p []api.Point
		x, y := l[d.next(len(l))], l[d.next(len(l))]
		for k := range 4 {
			switch d.next(4) {
			case 0:
				x = l[d.next(len(l))]
			case 1:
				y = l[d.next(len(l))]
			}
			p = append(p, api.Point{Curve: formCurve(curve.Of(x, y), i+k), Id: d.next(3)})
		}
		for _, kind := range kinds() {
			checkMake(t, kind, times[d.next(len(times))], p[:sizes()[kind]]...)
		}
	}
}

// TestNames: the names stand in the order of the points, whatever they are, and several points may have one.
func TestNames(t *testing.T) {
	ids := []int{5, 5, math.MinInt, math.MaxInt}
	var d draw = 2
	p := d.points(4)
	for i := range p {
		p[i].Id = ids[i]
	}
	for _, kind := range kinds() {
		n := sizes()[kind]
		want := api.Tag{Kind: kind}
		copy(want.Ids[:], ids[:n])
		if got, err := cert.Make(kind, nought(), p[:n]...); err != api.OK || got.Tag != want || got.Kind != kind || got.Ids != want.Ids {
			t.Error(kind, got, err)
		}
		checkMake(t, kind, numbers()[3], p[:n]...)
		// One point at all places: none of them is ahead of another one.
		one := []api.Point{p[0], p[0], p[0], p[0]}[:n]
		if got, err := cert.Make(kind, nought(), one...); err != api.OK || len(got.P) != 0 || got.Want != 0 || !cert.Holds(got, nought()) {
			t.Error(kind, got, err)
		}
	}
}

// TestWrongKinds: every other kind, and every other number of points, is an error.
func TestWrongKinds(t *testing.T) {
	var d draw = 9
	p := d.points(6)
	right := 0
	for _, kind := range []int{math.MinInt, -5, -1, 0, 1, 2, 3, 4, 5, 6, 7, 257, 1 << 32, 1<<32 + 1, math.MaxInt} {
		for n := range 7 {
			got, err := cert.Make(kind, nought(), p[:n]...)
			if kind >= 1 && kind <= 5 && n == sizes()[kind] {
				right++
				if err != api.OK || got.Kind != kind {
					t.Error(kind, n, got, err)
				}
				continue
			}
			if err != api.ErrArg || !sameCert(got, api.Cert{}) {
				t.Error(kind, n, got, err)
			}
		}
	}
	if _, err := cert.Make(3, nought()); err != api.ErrArg {
		t.Error(err)
	}
	if right != 5 {
		t.Error(right)
	}
}
