package limb

import "math/bits"

// maxShift is the greatest number of binary digits by which a number is shifted.
const maxShift = 1 << 16

// Bits returns the number of binary digits, 0 for 0.
func Bits(a []uint32) int {
	a = trim(a)
	if len(a) == 0 {
		return 0
	}
	return (len(a)-1)*limbBits + bits.Len32(a[len(a)-1])
}

// Shl returns a times 2^n; n below 0 counts as 0, and n above 65536 as 65536.
func Shl(a []uint32, n int) []uint32 {
	a, n = trim(a), shiftOf(n)
	if len(a) == 0 {
		return nil
	}
	skip := n / limbBits
	out := make([]uint32, skip+len(a)+1)
	shiftUp(out[skip:], a, n%limbBits)
	return trim(out)
}

// Shr returns a divided by 2^n, rounded down; n below 0 counts as 0, and n above 65536 as 65536.
func Shr(a []uint32, n int) []uint32 {
	a, n = trim(a), shiftOf(n)
	skip := n / limbBits
	if skip >= len(a) {
		return nil
	}
	out := make([]uint32, len(a)-skip)
	shiftDown(out, a[skip:], n%limbBits)
	return trim(out)
}

// shiftOf returns n within the bounds of a shift.
func shiftOf(n int) int {
	return min(max(n, 0), maxShift)
}

// shiftUp writes a times 2^n, n below 32, to out, which is one limb longer than a.
func shiftUp(out, a []uint32, n int) {
	carry := uint64(0)
	for i, x := range a {
		carry |= uint64(x) << n
		out[i] = uint32(carry)
		carry >>= limbBits
	}
	out[len(a)] = uint32(carry)
}

// shiftDown writes a divided by 2^n, n below 32, to out, which is as long as a.
func shiftDown(out, a []uint32, n int) {
	above := uint64(0)
	for i := len(a) - 1; i >= 0; i-- {
		above = above<<limbBits | uint64(a[i])
		out[i] = uint32(above >> n)
	}
}
