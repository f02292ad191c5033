package germ_test

import (
	"encoding/binary"
	"math"
	"math/big"
	"slices"

	"orrery/api"
)

const all = math.MaxUint32

// bigOf is the integer in the form of an arithmetic that is not the program's.
func bigOf(a api.Int) *big.Int {
	var digits []byte
	for i := len(a.L) - 1; i >= 0; i-- {
		digits = binary.BigEndian.AppendUint32(digits, a.L[i])
	}
	out := new(big.Int).SetBytes(digits)
	if a.Neg {
		out.Neg(out)
	}
	return out
}

// intOf is the inverse of bigOf.
func intOf(n *big.Int) api.Int {
	out := api.Int{Neg: n.Sign() < 0}
	rest, limb := new(big.Int).Abs(n), new(big.Int)
	for rest.Sign() > 0 {
		out.L = append(out.L, uint32(limb.And(rest, big.NewInt(all)).Uint64()))
		rest.Rsh(rest, 32)
	}
	return out
}

// bigRat is the rational number in the other arithmetic; its D is not 0.
func bigRat(a api.Rat) *big.Rat {
	return new(big.Rat).SetFrac(bigOf(a.Int), bigOf(a.D))
}

// ratOf is the rational number in the form of a result.
func ratOf(x *big.Rat) api.Rat {
	return api.Rat{Int: intOf(x.Num()), D: intOf(x.Denom())}
}

// fraction is n / d as it stands.
func fraction(n, d int64) api.Rat {
	p := raw(n, d)
	return api.Rat{Int: p[0], D: p[1]}
}

// power is 2^e.
func power(e int) *big.Rat {
	n := new(big.Int).Lsh(big.NewInt(1), uint(max(e, -e)))
	if e < 0 {
		return new(big.Rat).SetFrac(big.NewInt(1), n)
	}
	return new(big.Rat).SetInt(n)
}

// row is a polynomial in the other arithmetic, the lowest coefficient first, without zeros on top.
type row []*big.Rat

func (r row) cut() row {
	for len(r) > 0 && r[len(r)-1].Sign() == 0 {
		r = r[:len(r)-1]
	}
	return r
}

func rowOf(p api.Poly) row {
	var out row
	for _, a := range p {
		out = append(out, new(big.Rat).SetInt(bigOf(a)))
	}
	return out.cut()
}

// polyOf is the inverse of rowOf.
func polyOf(r row) api.Poly {
	var out api.Poly
	for _, x := range r {
		out = append(out, intOf(x.Num()))
	}
	return out
}

// small is the polynomial with these coefficients.
func small(l ...int64) row {
	var out row
	for _, n := range l {
		out = append(out, big.NewRat(n, 1))
	}
	return out.cut()
}

// raw is the polynomial with these coefficients as they stand.
func raw(l ...int64) api.Poly {
	var out api.Poly
	for _, n := range l {
		out = append(out, intOf(big.NewInt(n)))
	}
	return out
}

// linear is the polynomial d t - n for the number n / d.
func linear(x *big.Rat) row {
	return row{new(big.Rat).SetInt(new(big.Int).Neg(x.Num())), new(big.Rat).SetInt(x.Denom())}
}

func (r row) times(s row) row {
	out := make(row, len(r)+len(s))
	for i := range out {
		out[i] = new(big.Rat)
	}
	for i := range r {
		for k := range s {
			out[i+k].Add(out[i+k], new(big.Rat).Mul(r[i], s[k]))
		}
	}
	return out.cut()
}

func (r row) scaled(c *big.Rat) row {
	return r.times(row{c})
}

// power is r^n.
func (r row) power(n int) row {
	out := small(1)
	for range n {
		out = out.times(r)
	}
	return out
}

// derived is the derivative.
func (r row) derived() row {
	var out row
	for i := 1; i < len(r); i++ {
		out = append(out, new(big.Rat).Mul(r[i], big.NewRat(int64(i), 1)))
	}
	return out
}

// divide is the quotient and the remainder of r by s over the rational numbers; s is not 0.
func (r row) divide(s row) (q, rest row) {
	rest = slices.Clone(r)
	n := len(s)
	q = make(row, max(0, len(r)-n+1))
	for i := len(q) - 1; i >= 0; i-- {
		q[i] = new(big.Rat).Quo(rest[i+n-1], s[n-1])
		for k := range s {
			rest[i+k] = new(big.Rat).Sub(rest[i+k], new(big.Rat).Mul(q[i], s[k]))
		}
	}
	return q, rest.cut()
}

// reduced is r times the number above 0 that makes integers without a common divisor of the coefficients.
func (r row) reduced() row {
	by, content := big.NewInt(1), new(big.Int)
	for _, x := range r {
		by.Mul(by, new(big.Int).Quo(x.Denom(), new(big.Int).GCD(nil, nil, by, x.Denom())))
	}
	out := r.scaled(new(big.Rat).SetInt(by))
	for _, x := range out {
		content.GCD(nil, nil, content, new(big.Int).Abs(x.Num()))
	}
	if len(out) == 0 {
		return nil
	}
	return out.scaled(new(big.Rat).SetFrac(big.NewInt(1), content))
}

// gcd is a greatest common divisor of r and s, by Euclid's way.
func (r row) gcd(s row) row {
	for len(s) > 0 {
		_, rest := r.divide(s)
		r, s = s, rest.reduced()
	}
	return r
}

// square is the squarefree part of r, which is not 0, with some constant factor.
func (r row) square() row {
	out, _ := r.divide(r.gcd(r.derived()))
	return out.reduced()
}

// at is the value of r at t.
func (r row) at(t *big.Rat) *big.Rat {
	out := new(big.Rat)
	for i := len(r) - 1; i >= 0; i-- {
		out.Add(out.Mul(out, t), r[i])
	}
	return out
}

// bound is a number that is above all real roots, its negative being below them; r is not 0.
func (r row) bound() *big.Rat {
	out := new(big.Rat)
	for _, x := range r {
		out.Add(out, new(big.Rat).Abs(new(big.Rat).Quo(x, r[len(r)-1])))
	}
	return out.Add(out, big.NewRat(1, 1))
}

// sameInt tells whether both are one list and one sign, so that only a normal number is the same as a normal one.
func sameInt(a, b api.Int) bool {
	return a.Neg == b.Neg && slices.Equal(a.L, b.L)
}

func sameRat(a, b api.Rat) bool {
	return sameInt(a.Int, b.Int) && sameInt(a.D, b.D)
}

func same(a, b api.Poly) bool {
	return slices.EqualFunc(a, b, sameInt)
}

func sameAlg(a, b api.Alg) bool {
	return same(a.P, b.P) && sameRat(a.Lo, b.Lo) && sameRat(a.Hi, b.Hi)
}

func equal(a, b []api.Alg) bool {
	return slices.EqualFunc(a, b, sameAlg)
}

// draw gives numbers from a fixed row.
type draw uint64

func (d *draw) next(below int) int {
	*d = *d*6364136223846793005 + 1442695040888963407
	return int(uint64(*d) >> 33 % uint64(below))
}

// few has terms coefficients between -9 and 9, some of them 0, the leading one not.
func (d *draw) few(terms int) row {
	var l []int64
	for range terms {
		l = append(l, int64(d.next(19)-9))
	}
	if l[terms-1] == 0 {
		l[terms-1] = 5
	}
	return small(l...)
}

// powers is a product of several factors, some of them more than once.
func (d *draw) powers() row {
	out := small([]int64{1, -1, 4, -6}[d.next(4)])
	for range d.next(4) {
		out = out.times(d.few(2 + d.next(3)).power(1 + d.next(4)))
	}
	return out
}

// limbs is a number of size limbs, the lowest of them odd.
func (d *draw) limbs(size int) api.Int {
	out := api.Int{Neg: d.next(2) == 1}
	for range size {
		out.L = append(out.L, uint32(d.next(1<<16)<<16|d.next(1<<16)))
	}
	out.L[0] |= 1
	out.L[size-1] |= 1 << 31
	return out
}

// long has terms coefficients of size limbs.
func (d *draw) long(terms, size int) api.Poly {
	out := make(api.Poly, terms)
	for i := range out {
		out[i] = d.limbs(size)
	}
	return out
}

// noughts are forms of the integer 0.
func noughts() []api.Int {
	return []api.Int{{}, {Neg: true}, {L: []uint32{}}, {L: []uint32{0}}, {Neg: true, L: []uint32{0, 0}}}
}

// noPolys are forms of the polynomial 0.
func noPolys() []api.Poly {
	out := []api.Poly{nil, {}, noughts()}
	for _, a := range noughts() {
		out = append(out, api.Poly{a})
	}
	return out
}
