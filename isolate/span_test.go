package isolate

import (
	"testing"

	"orrery/api"
	"orrery/poly"
	"orrery/ratio"
)

// spans calls f with spans of all kinds: on both sides of 0 and across it, short and long, far and near, with short and with long ends.
func spans(f func(s span)) {
	var ends []api.Rat
	for _, e := range []int{-3000, -64, -33, -2, -1, 0, 1, 2, 31, 32, 900} {
		for _, n := range []int{1, 3, 1 << 40, 1<<40 - 1} {
			q, _ := ratio.Of(n, 7)
			ends = append(ends, ratio.Mul(q, power(e)), ratio.Mul(ratio.Neg(q), power(e)))
		}
	}
	ends = append(ends, ratio.Int(api.Int{}))
	for _, lo := range ends {
		for _, hi := range ends {
			f(span{lo, hi})
		}
		f(span{lo, ratio.Add(lo, power(-5000))})
	}
}

func TestCut(t *testing.T) {
	spans(func(s span) {
		if s.empty() {
			return
		}
		if mid := s.cut(); ratio.Cmp(s.lo, mid) >= 0 || ratio.Cmp(mid, s.hi) >= 0 {
			t.Fatal(s, mid)
		}
	})
}

// TestCutOn: cut on, on whatever side, a span becomes short.
func TestCutOn(t *testing.T) {
	sides := []func(s span) span{
		func(s span) span { return span{s.lo, s.cut()} },
		func(s span) span { return span{s.cut(), s.hi} },
	}
	long, short := power(80), power(-40)
	spans(func(s span) {
		if s.empty() || ratio.Cmp(s.hi, long) > 0 || ratio.Cmp(s.lo, ratio.Neg(long)) < 0 {
			return
		}
		for first := range 3 {
			part := s
			for i := 0; ratio.Cmp(ratio.Sub(part.hi, part.lo), short) > 0; i++ {
				if i == 250 {
					t.Fatal(s, part, first)
				}
				part = sides[(first+i*(first/2))%2](part)
			}
		}
	})
}

func TestSize(t *testing.T) {
	spans(func(s span) {
		if s.hi.Sign() <= 0 {
			return
		}
		if e := size(s.hi); ratio.Cmp(power(e-1), s.hi) >= 0 || ratio.Cmp(s.hi, power(e+1)) >= 0 {
			t.Fatal(s.hi, e)
		}
	})
}

// TestEverywhere: the bounds are powers of 2 beyond all roots.
func TestEverywhere(t *testing.T) {
	for _, c := range []struct {
		p api.Poly
		e int
	}{{nil, 0}, {poly.Of(5), 1}, {poly.Of(-2, 0, 1), 2}, {poly.Of(-6, 1), 3}, {poly.Of(-7, 1), 4}, {poly.Of(1, 100), 1}} {
		s := everywhere(c.p)
		if ratio.Cmp(s.hi, power(c.e)) != 0 || ratio.Cmp(s.lo, ratio.Neg(power(c.e))) != 0 {
			t.Error(c, s)
		}
	}
}
