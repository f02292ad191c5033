package det_test

import (
	"testing"

	"orrery/api"
	"orrery/det"
)

// TestLong has numbers of MaxLimbs limbs.
func TestLong(t *testing.T) {
	var d draw = 21
	for n := range 5 {
		for terms := range 4 {
			rows := rows(n, func() api.Poly { return d.long(terms, api.MaxLimbs) })
			checkDet(t, rows)
			checkMinors(t, rows)
		}
	}
}

// TestMax has limbs that are all at their greatest, so that every carry runs through.
func TestMax(t *testing.T) {
	for i := range 16 {
		k := 0
		checkDet(t, rows(4, func() api.Poly {
			k++
			out := api.Poly{{Neg: i>>(k%4)&1 == 1}, {Neg: k%3 == 0}}
			for m := range out {
				for range 1 + (i+k)%3 {
					out[m].L = append(out[m].L, all)
				}
			}
			return out
		}))
	}
}

// TestManyTerms has polynomials of MaxTerms coefficients.
func TestManyTerms(t *testing.T) {
	var d draw = 34
	for n := range 5 {
		rows := rows(n, func() api.Poly { return d.long(api.MaxTerms, 1) })
		checkDet(t, rows)
		checkMinors(t, rows)
	}
}

// TestBeyond: more coefficients and limbs than the limits are no promise, but each call ends.
func TestBeyond(t *testing.T) {
	var d draw = 55
	p := d.long(api.MaxTerms+20, 3)
	q := d.long(3, api.MaxLimbs+20)
	l := det.Row(p, q)
	if got, err := det.Det(l, det.Row(q, p)); err != api.OK || got.Deg() != 2*(api.MaxTerms+19) {
		t.Error(got.Deg(), err)
	}
	if got, err := det.Minor(1, 0, l, l); err != api.OK || !sameRows(got, [][]api.Poly{{q}}) {
		t.Error(got, err)
	}
}
