package whole

import (
	"math/bits"

	"orrery/api"
	"orrery/limb"
)

// windowBits is the size of the windows at the top of two numbers by which several steps of Euclid are foreseen. It keeps the factors of a turn below 2^31, and what turned sums up within 64 binary digits.
const windowBits = 62

// Gcd returns the greatest number that divides all arguments, 0 without arguments and if all of them are 0.
func Gcd(l ...api.Int) api.Int {
	var out []uint32
	for _, a := range l {
		out = gcd(out, limb.Norm(a.L))
	}
	return signed(false, out)
}

// gcd returns the greatest common divisor of two normal numbers; it may be one of them itself. It is Euclid's way with Lehmer's improvement: long division only where no step can be foreseen.
func gcd(a, b []uint32) []uint32 {
	if limb.Cmp(a, b) < 0 {
		a, b = b, a
	}
	for len(b) > 0 {
		if len(a) <= 2 {
			return limbsOf(shortGcd(low(a), low(b)))
		}
		t := foresee(windows(a, b))
		if t.still() {
			_, r, _ := limb.DivMod(a, b)
			a, b = b, r
		} else {
			a, b = t.turned(a, b)
		}
	}
	return a
}

// shortGcd is Euclid's way for short numbers.
func shortGcd(a, b uint64) uint64 {
	for b != 0 {
		a, b = b, a%b
	}
	return a
}

// windows returns the topmost digits of a, which has at least three limbs, and the digits of b at the same places; b is at most a.
func windows(a, b []uint32) (x, y int64) {
	top := len(a) - 1
	lead := bits.LeadingZeros32(a[top])
	return window(a, top, lead), window(b, top, lead)
}

// window returns the digits of l that begin lead digits below the top of the limb of index top.
func window(l []uint32, top, lead int) int64 {
	var part [3]uint32
	for i := range part {
		if top-i < len(l) {
			part[i] = l[top-i]
		}
	}
	digits := uint64(part[0])<<limbBits | uint64(part[1])
	digits = digits<<lead | uint64(part[2])>>(limbBits-lead)
	return int64(digits >> (2*limbBits - windowBits))
}

// turn is what some steps of Euclid come to: a becomes aa a + ab b, and b becomes ba a + bb b.
type turn struct {
	aa, ab, ba, bb int64
}

// still says whether the turn changes nothing.
func (t turn) still() bool {
	return t.ab == 0
}

// step returns the turn with one more step, whose quotient is q.
func (t turn) step(q int64) turn {
	return turn{t.ba, t.bb, t.aa - q*t.ba, t.ab - q*t.bb}
}

// foresee returns the steps that are the same for all numbers with the windows x and y; y is at most x. The digits below the windows move a rest by less than its factor of b: a step counts if by that neither the lesser rest comes below 0 nor the greater one down to it (Collins's condition).
func foresee(x, y int64) turn {
	t := turn{aa: 1, bb: 1}
	for y > 0 {
		q := x / y
		next := t.step(q)
		x, y = y, x-q*y
		lesser, greater := max(next.bb, -next.bb), max(next.ab, -next.ab)
		if y < lesser || x-y < lesser+greater {
			break
		}
		t = next
	}
	return t
}

// turned returns what the turn, which is not still, makes of a and b. After a step neither number is greater than b, so the limbs beyond b's need not be looked at.
func (t turn) turned(a, b []uint32) (c, d []uint32) {
	c, d = make([]uint32, len(b)), make([]uint32, len(b))
	over, under := int64(0), int64(0)
	for i := range b {
		x, y := int64(a[i]), int64(b[i])
		over += t.aa*x + t.ab*y
		under += t.ba*x + t.bb*y
		c[i], d[i] = uint32(over), uint32(under)
		over >>= limbBits
		under >>= limbBits
	}
	return limb.Norm(c), limb.Norm(d)
}
