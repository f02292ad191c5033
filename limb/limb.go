// Package limb: natural numbers as lists of limbs of 32 binary digits, the lowest first.
package limb

// limbBits is the number of binary digits of a limb.
const limbBits = 32

// trim returns a without the zero limbs on top; it shares a's memory, so it serves for arguments only.
func trim(a []uint32) []uint32 {
	for len(a) > 0 && a[len(a)-1] == 0 {
		a = a[:len(a)-1]
	}
	return a
}

// Norm returns a in the form of a result: new memory, no zero limbs on top.
func Norm(a []uint32) []uint32 {
	a = trim(a)
	out := make([]uint32, len(a))
	copy(out, a)
	return out
}

// Cmp returns -1, 0 or 1 if a is less than, equal to, or greater than b.
func Cmp(a, b []uint32) int {
	a, b = trim(a), trim(b)
	if len(a) != len(b) {
		return sign(len(a) > len(b))
	}
	for i := len(a) - 1; i >= 0; i-- {
		if a[i] != b[i] {
			return sign(a[i] > b[i])
		}
	}
	return 0
}

// sign turns the answer of a comparison of unequal things into 1 or -1.
func sign(greater bool) int {
	if greater {
		return 1
	}
	return -1
}

// Add returns the sum.
func Add(a, b []uint32) []uint32 {
	return Sum(a, b)
}

// Sum returns the sum of all arguments, 0 without arguments.
func Sum(l ...[]uint32) []uint32 {
	longest := 0
	for _, a := range l {
		longest = max(longest, len(trim(a)))
	}
	// One limb to spare: most sums have no more than that.
	out := make([]uint32, longest, longest+1)
	for _, a := range l {
		out = addTo(out, trim(a))
	}
	return out
}

// addTo adds a to out in place and returns out, longer by a limb if the sum is; out is at least as long as a.
func addTo(out, a []uint32) []uint32 {
	carry := uint64(0)
	for i, x := range a {
		carry += uint64(out[i]) + uint64(x)
		out[i] = uint32(carry)
		carry >>= limbBits
	}
	for i := len(a); carry != 0; i++ {
		if i == len(out) {
			return append(out, 1)
		}
		out[i]++
		if out[i] != 0 {
			carry = 0
		}
	}
	return out
}

// Sub returns the difference, and true; it returns false if a is less than b.
func Sub(a, b []uint32) ([]uint32, bool) {
	if Cmp(a, b) < 0 {
		return nil, false
	}
	out, b := Norm(a), trim(b)
	borrow := uint64(0)
	for i, y := range b {
		d := uint64(out[i]) - uint64(y) - borrow
		out[i] = uint32(d)
		borrow = d >> limbBits & 1
	}
	// a is not less than b: a limb above b's takes up what is left to borrow.
	for i := len(b); borrow != 0; i++ {
		if out[i] != 0 {
			borrow = 0
		}
		out[i]--
	}
	return trim(out), true
}

// Mul returns the product.
func Mul(a, b []uint32) []uint32 {
	a, b = trim(a), trim(b)
	if len(a) == 0 || len(b) == 0 {
		return nil
	}
	out := make([]uint32, len(a)+len(b))
	for i, x := range a {
		out[i+len(b)] = mulAdd(out[i:i+len(b)], b, x)
	}
	return trim(out)
}

// mulAdd adds b times x to out, which is as long as b, and returns the limb that is carried out of it.
func mulAdd(out, b []uint32, x uint32) uint32 {
	carry := uint64(0)
	for i, y := range b {
		carry += uint64(x)*uint64(y) + uint64(out[i])
		out[i] = uint32(carry)
		carry >>= limbBits
	}
	return uint32(carry)
}
