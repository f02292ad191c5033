package alg

import (
	"testing"

	"orrery/api"
	"orrery/isolate"
	"orrery/poly"
	"orrery/ratio"
	"orrery/whole"
)

// roots are numbers with wide intervals: simple ones, one beside another root at Lo, and one far below Hi.
func roots() []api.Alg {
	var out []api.Alg
	for _, c := range []struct {
		p      api.Poly
		lo, hi int
	}{
		{poly.Of(-2, 0, 1), 0, 2}, {poly.Of(-2, 0, 1), -5, 0}, {poly.Of(0, -2, 0, 1), 0, 1 << 60}, {poly.Of(-1, 3), 0, 1}, {poly.Of(7, -3, 0, 0, 0, 11, 1), -99, -3},
	} {
		out = append(out, api.Alg{P: c.p, Lo: ratio.Int(whole.Of(c.lo)), Hi: ratio.Int(whole.Of(c.hi))})
	}
	return out
}

// TestKeep tries every cut of an interval for numbers at all cuts and between them: the two parts beside the cut are kept if the number is in one of them, and otherwise nothing changes.
func TestKeep(t *testing.T) {
	for at := 1; at < 64; at++ {
		// One root at at / 64, another one at 0, which is Lo, and none elsewhere.
		p := poly.Product(poly.Of(-at, 64), poly.Of(0, 1), poly.Of(3, -1, 1))
		a := api.Alg{P: p, Lo: ratio.Int(whole.Of(0)), Hi: ratio.Int(whole.Of(1))}
		for n := 1; n < 16; n++ {
			r := open(a)
			last := *r
			got := r.keep(4, whole.Of(n))
			if got != (4*(n-1) <= at && at <= 4*(n+1)) {
				t.Fatal(at, n, got)
			}
			if !got && (ratio.Cmp(r.lo(), last.lo()) != 0 || ratio.Cmp(r.hi(), last.hi()) != 0) {
				t.Fatal(at, n, r, "not as it was")
			}
			if !isolate.Valid(api.Alg{P: p, Lo: r.lo(), Hi: r.hi()}) || r.known() != (got && at%4 == 0) {
				t.Fatal(at, n, r)
			}
		}
	}
}

// TestNarrow: every step leaves an interval with the number in it and within the last one.
func TestNarrow(t *testing.T) {
	for _, a := range roots() {
		r := open(a)
		for range 40 {
			last := *r
			r.narrow()
			b := api.Alg{P: a.P, Lo: r.lo(), Hi: r.hi()}
			if !isolate.Valid(b) || ratio.Cmp(r.lo(), last.lo()) < 0 || ratio.Cmp(r.hi(), last.hi()) > 0 {
				t.Fatal(a, last, r)
			}
			if ratio.Cmp(r.width(), last.width()) >= 0 && r.reach >= last.reach && !r.known() {
				t.Fatal(a, last, r, "nothing is won")
			}
			a = b
		}
	}
}

// TestNarrowIsFast: thousands of digits take few steps, since most of them win as many as they can.
func TestNarrowIsFast(t *testing.T) {
	for _, a := range roots() {
		r := open(a)
		parts := whole.Pow(whole.Pow(whole.Of(2), 256), 16)
		steps := 0
		for ; whole.Cmp(whole.Mul(r.w, parts), r.d) > 0; steps++ {
			r.narrow()
		}
		if steps > 60 {
			t.Error(a, steps)
		}
	}
}
