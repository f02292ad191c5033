package whole

import (
	"orrery/api"
	"orrery/limb"
)

// DivMod returns ErrZero if b is 0; otherwise q and r with a = q b + r, where r is at least 0 and less than the absolute value of b.
func DivMod(a, b api.Int) (q, r api.Int, err api.Errno) {
	n, rest, err := limb.DivMod(a.L, b.L)
	if err != api.OK {
		return api.Int{}, api.Int{}, err
	}
	if a.Neg && len(rest) > 0 {
		// The next multiple of b away from 0 is the one that is not above a.
		n = limb.Add(n, []uint32{1})
		rest, _ = limb.Sub(b.L, rest)
	}
	return signed(a.Neg != b.Neg, n), signed(false, rest), api.OK
}

// Exact returns ErrZero if b is 0, ErrExact if b does not divide a; otherwise the quotient.
func Exact(a, b api.Int) (api.Int, api.Errno) {
	q, r, err := DivMod(a, b)
	switch {
	case err != api.OK:
		return api.Int{}, err
	case !r.Zero():
		return api.Int{}, api.ErrExact
	}
	return q, api.OK
}
