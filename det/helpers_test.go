package det_test

import (
	"encoding/binary"
	"math"
	"math/big"
	"slices"

	"orrery/api"
)

const all = math.MaxUint32

// bigOf is the integer in the form of an arithmetic that is not the program's.
func bigOf(a api.Int) *big.Int {
	var digits []byte
	for i := len(a.L) - 1; i >= 0; i-- {
		digits = binary.BigEndian.AppendUint32(digits, a.L[i])
	}
	out := new(big.Int).SetBytes(digits)
	if a.Neg {
		out.Neg(out)
	}
	return out
}

// intOf is the inverse of bigOf.
func intOf(n *big.Int) api.Int {
	out := api.Int{Neg: n.Sign() < 0}
	rest, limb := new(big.Int).Abs(n), new(big.Int)
	for rest.Sign() > 0 {
		out.L = append(out.L, uint32(limb.And(rest, big.NewInt(all)).Uint64()))
		rest.Rsh(rest, 32)
	}
	return out
}

// raw is the polynomial with these coefficients as they stand.
func raw(l ...int64) api.Poly {
	var out api.Poly
	for _, n := range l {
		out = append(out, intOf(big.NewInt(n)))
	}
	return out
}

// list is a polynomial in the other arithmetic, the lowest coefficient first.
type list []*big.Int

func listOf(p api.Poly) list {
	var out list
	for _, a := range p {
		out = append(out, bigOf(a))
	}
	return out
}

// zeros has n coefficients, all of them 0.
func zeros(n int) list {
	out := make(list, n)
	for i := range out {
		out[i] = new(big.Int)
	}
	return out
}

// plus is l + by m.
func (l list) plus(m list, by int64) list {
	out := zeros(max(len(l), len(m)))
	for i, a := range l {
		out[i].Add(out[i], a)
	}
	for i, a := range m {
		out[i].Add(out[i], new(big.Int).Mul(a, big.NewInt(by)))
	}
	return out
}

func (l list) times(m list) list {
	out := zeros(len(l) + len(m))
	for i, a := range l {
		for k, b := range m {
			out[i+k].Add(out[i+k], new(big.Int).Mul(a, b))
		}
	}
	return out
}

// poly is l in the form of a result.
func (l list) poly() api.Poly {
	for len(l) > 0 && l[len(l)-1].Sign() == 0 {
		l = l[:len(l)-1]
	}
	var out api.Poly
	for _, a := range l {
		out = append(out, intOf(a))
	}
	return out
}

// orders calls f with each order of 0 to n - 1, and with its sign.
func orders(n int, f func(order []int, sign int64)) {
	var extend func(order []int, sign int64)
	extend = func(order []int, sign int64) {
		if len(order) == n {
			f(order, sign)
			return
		}
		for k := range n {
			if slices.Contains(order, k) {
				continue
			}
			turned := sign
			for _, before := range order {
				if before > k {
					turned = -turned
				}
			}
			extend(append(slices.Clone(order), k), turned)
		}
	}
	extend(nil, 1)
}

// wantDet is the determinant in the form of a result: the sum over all orders of the columns.
func wantDet(rows [][]api.Poly) api.Poly {
	var out list
	orders(len(rows), func(order []int, sign int64) {
		product := list{big.NewInt(1)}
		for i, k := range order {
			product = product.times(listOf(rows[i][k]))
		}
		out = out.plus(product, sign)
	})
	return out.poly()
}

// sameInt tells whether both are one list and one sign, so that only a normal number is the same as a normal one.
func sameInt(a, b api.Int) bool {
	return a.Neg == b.Neg && slices.Equal(a.L, b.L)
}

func same(a, b api.Poly) bool {
	return slices.EqualFunc(a, b, sameInt)
}

func sameRow(a, b []api.Poly) bool {
	return slices.EqualFunc(a, b, same)
}

func sameRows(a, b [][]api.Poly) bool {
	return slices.EqualFunc(a, b, sameRow)
}

// draw gives numbers from a fixed row.
type draw uint64

func (d *draw) next(below int) int {
	*d = *d*6364136223846793005 + 1442695040888963407
	return int(uint64(*d) >> 33 % uint64(below))
}

// few has at most terms coefficients between -9 and 9, some of them 0, also on top.
func (d *draw) few(terms int) api.Poly {
	var l []int64
	for range d.next(terms + 1) {
		l = append(l, int64(d.next(19)-9))
	}
	return raw(l...)
}

// rows are n rows of n elements that make makes.
func rows(n int, make func() api.Poly) [][]api.Poly {
	var out [][]api.Poly
	for range n {
		var row []api.Poly
		for range n {
			row = append(row, make())
		}
		out = append(out, row)
	}
	return out
}

// limbs is a number of size limbs.
func (d *draw) limbs(size int) api.Int {
	out := api.Int{Neg: d.next(2) == 1}
	for range size {
		out.L = append(out.L, uint32(d.next(1<<16)<<16|d.next(1<<16)))
	}
	out.L[0] |= 1
	out.L[size-1] |= 1 << 31
	return out
}

// long has terms coefficients of size limbs.
func (d *draw) long(terms, size int) api.Poly {
	out := make(api.Poly, terms)
	for i := range out {
		out[i] = d.limbs(size)
	}
	return out
}

// noughts are forms of the integer 0.
func noughts() []api.Int {
	return []api.Int{{}, {Neg: true}, {L: []uint32{}}, {L: []uint32{0}}, {Neg: true, L: []uint32{0, 0}}}
}

// noPolys are forms of the polynomial 0.
func noPolys() []api.Poly {
	out := []api.Poly{nil, {}, noughts()}
	for _, a := range noughts() {
		out = append(out, api.Poly{a})
	}
	return out
}
