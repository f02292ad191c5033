package limb

import (
	"math/bits"

	"orrery/api"
)

// DivMod returns ErrZero if b is 0; otherwise the quotient and the remainder of a by b.
func DivMod(a, b []uint32) (q, r []uint32, err api.Errno) {
	a, b = trim(a), trim(b)
	switch {
	case len(b) == 0:
		return nil, nil, api.ErrZero
	case len(a) < len(b):
		return nil, Norm(a), api.OK
	case len(b) == 1:
		q, r = divShort(a, b[0])
	default:
		q, r = divLong(a, b)
	}
	return q, r, api.OK
}

// divShort divides by a single limb, which is not 0.
func divShort(a []uint32, b uint32) (q, r []uint32) {
	q = make([]uint32, len(a))
	rest := uint32(0)
	for i := len(a) - 1; i >= 0; i-- {
		q[i], rest = bits.Div32(rest, a[i], b)
	}
	return trim(q), trim([]uint32{rest})
}

// divLong divides a by b, which has at least two limbs and no more than a: limb by limb from the top, as by hand. Both are first shifted until b's top digit is 1: only then is a limb of the quotient that is guessed from the topmost limbs at most 1 too great.
func divLong(a, b []uint32) (q, r []uint32) {
	n := len(b)
	shift := bits.LeadingZeros32(b[n-1])
	rest, by := make([]uint32, len(a)+1), make([]uint32, n+1)
	shiftUp(rest, a, shift)
	shiftUp(by, b, shift)
	by = by[:n]
	q = make([]uint32, len(a)-n+1)
	for i := len(q) - 1; i >= 0; i-- {
		part := rest[i : i+n+1]
		q[i] = guess(part, by)
		if mulSub(part, by, q[i]) {
			q[i]--
			addBack(part, by)
		}
	}
	r = make([]uint32, n)
	shiftDown(r, rest[:n], shift)
	return trim(q), trim(r)
}

// guess returns the quotient of part by b, or 1 more; part is one limb longer than b, and less than b times 2^32. It looks at the three topmost limbs of part and the two topmost ones of b.
func guess(part, b []uint32) uint32 {
	n := len(b)
	top := uint64(part[n])<<limbBits | uint64(part[n-1])
	q, rest := top/uint64(b[n-1]), top%uint64(b[n-1])
	// Where rest has grown beyond a limb, the limb below can't make q too great any more.
	for rest>>limbBits == 0 && (q>>limbBits != 0 || q*uint64(b[n-2]) > rest<<limbBits|uint64(part[n-2])) {
		q--
		rest += uint64(b[n-1])
	}
	return uint32(q)
}

// mulSub takes b times x from part, which is one limb longer, modulo its size, and reports whether part was too small for it.
func mulSub(part, b []uint32, x uint32) bool {
	carry := uint64(0)
	for i, y := range b {
		carry += uint64(x) * uint64(y)
		low := uint32(carry)
		carry >>= limbBits
		if part[i] < low {
			carry++
		}
		part[i] -= low
	}
	n := len(b)
	short := uint64(part[n]) < carry
	part[n] -= uint32(carry)
	return short
}

// addBack adds b to part, which is one limb longer, modulo its size.
func addBack(part, b []uint32) {
	carry := uint64(0)
	for i, y := range b {
		carry += uint64(part[i]) + uint64(y)
		part[i] = uint32(carry)
		carry >>= limbBits
	}
	part[len(b)] += uint32(carry)
}
