package cert_test

import (
	"testing"

	"orrery/api"
	"orrery/cert"
	"orrery/curve"
)

// TestWrongTimes: for a time that is not Valid nothing is promised but that the calls end.
func TestWrongTimes(t *testing.T) {
	polys := append(noPolys(), raw(5), raw(1, 0, 1), raw(-2, 0, 1), raw(1, -2, 1), raw(0, -6, 11, -6, 1, 0))
	ends := []api.Rat{{}, fraction(1, 0), fraction(-9, 1), fraction(9, -1), fraction(2, 4), fraction(1<<40, 3)}
	p := []api.Point{{}, moving(1, raw(1), raw(-2, 0, 1)), moving(0, raw(0, 1), raw(-2, 0, 1)), {Curve: curve.Of(raw(1, -2, 1), nil), Id: -4}}
	for _, q := range polys {
		for _, lo := range ends {
			for _, hi := range ends {
				at := api.Alg{P: q, Lo: lo, Hi: hi}
				for kind := range 7 {
					for n := range 5 {
						checkWrong(t, kind, at, p[:n])
					}
				}
			}
		}
	}
}

// checkWrong has what holds for all arguments: what goes with an error, and with a result false.
func checkWrong(t *testing.T, kind int, at api.Alg, p []api.Point) {
	t.Helper()
	c, err := cert.Make(kind, at, p...)
	if right := kind > 0 && kind < 6 && len(p) == sizes()[kind]; right != (err == api.OK) || !right && (err != api.ErrArg || !sameCert(c, api.Cert{})) {
		t.Error(kind, at, p, c, err)
	}
	cert.Holds(c, at)
	if a, ok := cert.Fails(c, at); !ok && !sameAlg(a, api.Alg{}) {
		t.Error(c, at, a)
	}
	if e, ok := cert.Event(c, at); !ok && !sameEvent(e, api.Event{}) || ok && e.Tag != c.Tag {
		t.Error(c, at, e)
	}
}

// TestWrongCerts: certificates that Make never returns are read as they stand.
func TestWrongCerts(t *testing.T) {
	for _, c := range []api.Cert{{}, {Tag: api.Tag{Kind: -7, Ids: [4]int{-1, -2, 3, 3}}, P: raw(-1, 1), Want: 3}, {P: raw(-1, 1, 0, 0), Want: -1}, {Tag: api.Tag{Kind: 9}, P: noughts()}} {
		sign, fails := 0, len(rowOf(c.P, one(1))) > 0
		if fails {
			sign = -1
		}
		if got := cert.Holds(c, nought()); got != (c.Want == sign) {
			t.Error(c, got)
		}
		e, ok := cert.Event(c, nought())
		if ok != fails || ok && (e.Tag != c.Tag || !isAt(e.At, placeOf(bigRat(fraction(1, 1))))) {
			t.Error(c, e, ok)
		}
	}
}
