package pgcd_test

import (
	"encoding/binary"
	"math"
	"math/big"
	"slices"
	"testing"

	"orrery/api"
)

const all = math.MaxUint32

// bigOf is the integer in the form of an arithmetic that is not the program's.
func bigOf(a api.Int) *big.Int {
	var digits []byte
	for i := len(a.L) - 1; i >= 0; i-- {
		digits = binary.BigEndian.AppendUint32(digits, a.L[i])
	}
	out := new(big.Int).SetBytes(digits)
	if a.Neg {
		out.Neg(out)
	}
	return out
}

// intOf is the inverse of bigOf.
func intOf(n *big.Int) api.Int {
	out := api.Int{Neg: n.Sign() < 0}
	rest, limb := new(big.Int).Abs(n), new(big.Int)
	for rest.Sign() > 0 {
		out.L = append(out.L, uint32(limb.And(rest, big.NewInt(all)).Uint64()))
		rest.Rsh(rest, 32)
	}
	return out
}

// row is a polynomial in the other arithmetic, without zeros on top.
type row []*big.Int

func rowOf(p api.Poly) row {
	var out row
	for _, a := range p {
		out = append(out, bigOf(a))
	}
	return out.cut()
}

// polyOf is the inverse of rowOf.
func polyOf(r row) api.Poly {
	var out api.Poly
	for _, x := range r {
		out = append(out, intOf(x))
	}
	return out
}

func (r row) cut() row {
	for len(r) > 0 && r[len(r)-1].Sign() == 0 {
		r = r[:len(r)-1]
	}
	return r
}

// deg is the degree, -1 for 0.
func (r row) deg() int {
	return len(r) - 1
}

// zeros are n coefficients to be added to.
func zeros(n int) row {
	out := make(row, n)
	for i := range out {
		out[i] = new(big.Int)
	}
	return out
}

func (r row) plus(s row) row {
	out := zeros(max(len(r), len(s)))
	for i := range r {
		out[i].Add(out[i], r[i])
	}
	for i := range s {
		out[i].Add(out[i], s[i])
	}
	return out.cut()
}

func (r row) times(s row) row {
	out := zeros(len(r) + len(s))
	for i := range r {
		for k := range s {
			out[i+k].Add(out[i+k], new(big.Int).Mul(r[i], s[k]))
		}
	}
	return out.cut()
}

func (r row) scaled(c *big.Int) row {
	return r.times(row{c})
}

// content is the greatest common divisor of the coefficients.
func (r row) content() *big.Int {
	out := new(big.Int)
	for _, x := range r {
		out.GCD(nil, nil, out, new(big.Int).Abs(x))
	}
	return out
}

// divide is the quotient and the remainder of r by s over the rational numbers; s is not 0.
func (r row) divide(s row) (q, rest []*big.Rat) {
	for _, x := range r {
		rest = append(rest, new(big.Rat).SetInt(x))
	}
	n := s.deg()
	if len(r) > n {
		q = make([]*big.Rat, len(r)-n)
	}
	for i := len(q) - 1; i >= 0; i-- {
		q[i] = new(big.Rat).Quo(rest[i+n], new(big.Rat).SetInt(s[n]))
		for k := range s {
			part := new(big.Rat).Mul(q[i], new(big.Rat).SetInt(s[k]))
			rest[i+k].Sub(rest[i+k], part)
		}
	}
	return q, rest
}

// raised are the numbers of l times the least integer above 0 that makes integers of all of them, and divided by the greatest common divisor.
func raised(l []*big.Rat) row {
	by := big.NewInt(1)
	for _, x := range l {
		by.Mul(by, new(big.Int).Quo(x.Denom(), new(big.Int).GCD(nil, nil, by, x.Denom())))
	}
	out := zeros(len(l))
	for i, x := range l {
		out[i].Quo(out[i].Mul(x.Num(), by), x.Denom())
	}
	out = out.cut()
	c := out.content()
	for i := range out {
		out[i].Quo(out[i], c)
	}
	return out
}

// primitive is r divided by its content, its leading coefficient above 0.
func (r row) primitive() row {
	var l []*big.Rat
	for _, x := range r {
		l = append(l, new(big.Rat).SetInt(x))
	}
	out := raised(l)
	if len(out) > 0 && out[out.deg()].Sign() < 0 {
		return out.scaled(big.NewInt(-1))
	}
	return out
}

// gcd is the greatest common divisor of r and s by Euclid's way over the rational numbers.
func (r row) gcd(s row) row {
	for len(s) > 0 {
		_, rest := r.divide(s)
		r, s = s, raised(rest)
	}
	return r.primitive()
}

// derived is the derivative.
func (r row) derived() row {
	out := zeros(max(0, r.deg()))
	for i := range out {
		out[i].Mul(r[i+1], big.NewInt(int64(i+1)))
	}
	return out
}

// power is r^n.
func (r row) power(n int) row {
	out := row{big.NewInt(1)}
	for range n {
		out = out.times(r)
	}
	return out
}

// raw is the polynomial with these coefficients as they stand.
func raw(l ...int64) api.Poly {
	out := make(api.Poly, len(l))
	for i, n := range l {
		out[i] = intOf(big.NewInt(n))
	}
	return out
}

// sameInt tells whether both are one list and one sign, so that only a normal number is the same as a normal one.
func sameInt(a, b api.Int) bool {
	return a.Neg == b.Neg && slices.Equal(a.L, b.L)
}

func same(a, b api.Poly) bool {
	return slices.EqualFunc(a, b, sameInt)
}

// check tells whether got is the polynomial want, in the form of a result.
func check(t *testing.T, got api.Poly, want row, what ...any) {
	t.Helper()
	if !same(got, polyOf(want.cut())) {
		t.Fatal("got", got, "want", want, what)
	}
}

func checkInt(t *testing.T, got api.Int, want *big.Int, what ...any) {
	t.Helper()
	if !sameInt(got, intOf(want)) {
		t.Fatal("got", got, "want", want, what)
	}
}

// draw gives numbers from a fixed row, limbs at the bounds more often than others.
type draw uint64

func (d *draw) next(below int) int {
	*d = *d*6364136223846793005 + 1442695040888963407
	return int(uint64(*d) >> 33 % uint64(below))
}

func (d *draw) limb() uint32 {
	switch d.next(6) {
	case 0:
		return 0
	case 1:
		return all
	case 2, 3:
		return uint32(d.next(5))
	}
	return uint32(d.next(1<<16)<<16 | d.next(1<<16))
}

// number has up to size limbs, and often zero limbs on top of them.
func (d *draw) number(size int) api.Int {
	out := api.Int{Neg: d.next(2) == 1}
	for range d.next(size + 1) {
		out.L = append(out.L, d.limb())
	}
	out.L = append(out.L, make([]uint32, max(0, d.next(5)-2))...)
	return out
}

// poly has up to terms coefficients of up to size limbs, and often zero coefficients on top of them.
func (d *draw) poly(terms, size int) api.Poly {
	var out api.Poly
	for range d.next(terms + 1) {
		out = append(out, d.number(size))
	}
	for range max(0, d.next(5)-2) {
		out = append(out, d.number(0))
	}
	return out
}

// few has terms coefficients between -9 and 9, the leading one not 0.
func (d *draw) few(terms int) api.Poly {
	var l []int64
	for range terms {
		l = append(l, int64(d.next(19)-9))
	}
	if l[terms-1] == 0 {
		l[terms-1] = 5
	}
	return raw(l...)
}

// long has terms coefficients of size limbs, none of them 0.
func (d *draw) long(terms, size int) api.Poly {
	out := make(api.Poly, terms)
	for i := range out {
		out[i] = api.Int{Neg: d.next(2) == 1}
		for range size {
			out[i].L = append(out[i].L, d.limb()|1)
		}
	}
	return out
}

// noughts are forms of the integer 0.
func noughts() []api.Int {
	return []api.Int{{}, {Neg: true}, {L: []uint32{}}, {L: []uint32{0}}, {Neg: true, L: []uint32{0, 0}}}
}

// noPolys are forms of the polynomial 0.
func noPolys() []api.Poly {
	out := []api.Poly{nil, {}, noughts()}
	for _, a := range noughts() {
		out = append(out, api.Poly{a})
	}
	return out
}

// edges are polynomials at the edges: every form of 0, constants, powers of t, zeros within and on top, numbers that are not normal.
func edges() []api.Poly {
	out := noPolys()
	for _, l := range [][]int64{{1}, {-1}, {7}, {0, 1}, {0, -1}, {0, 0, 1}, {1, 1}, {-1, 1}, {1, -1}, {-1, 2}, {-6, 4}, {6, -4}, {-2, 0, 1}, {2, 0, -1}, {0, 0, 0, -5}, {1, 2, 1}, {-6, 11, -6, 1}, {1 << 40, -1 << 62, 3}, {-4, 0, 6, 0, 0, -10}} {
		p := raw(l...)
		out = append(out, p, append(slices.Clone(p), noughts()...))
	}
	for _, l := range [][]uint32{{1, 0}, {all, all, 0, 0}, {0, 1 << 31}, {0, 0, 5, 0}} {
		a, b := api.Int{L: l}, api.Int{Neg: true, L: l}
		out = append(out, api.Poly{a}, api.Poly{b}, api.Poly{a, b}, api.Poly{b, {Neg: true}, a}, api.Poly{{L: []uint32{0, 0}}, a, {Neg: true, L: []uint32{0}}})
	}
	return out
}

// small are the polynomials with up to three coefficients from -2 to 2, all with three numbers in the list.
func small() []api.Poly {
	var out []api.Poly
	for a := int64(-2); a <= 2; a++ {
		for b := int64(-2); b <= 2; b++ {
			for c := int64(-2); c <= 2; c++ {
				out = append(out, raw(a, b, c))
			}
		}
	}
	return out
}

// singles calls f with polynomials at the edges, with small ones, with drawn ones and with products of powers.
func singles(f func(a api.Poly)) {
	for _, a := range append(edges(), small()...) {
		f(a)
	}
	d := draw(1)
	for i := range 1000 {
		f(d.poly(1+i%7, 1+i%4))
	}
	for i := range 1000 {
		r := rowOf(d.few(1 + i%2))
		for range 1 + i%4 {
			r = r.times(rowOf(d.few(1 + d.next(3))).power(1 + d.next(4)))
		}
		f(polyOf(r))
	}
}

// pairs calls f with pairs of them, and with pairs that have a common factor.
func pairs(f func(a, b api.Poly)) {
	for _, l := range [][]api.Poly{edges(), small()} {
		for _, a := range l {
			for _, b := range l {
				f(a, b)
			}
		}
	}
	d := draw(2)
	for i := range 1000 {
		f(d.poly(1+i%7, 1+i%4), d.poly(1+i%6, 1+i%4))
		f(d.few(1+i%9), d.few(1+i%5))
	}
	for i := range 1000 {
		common := rowOf(d.poly(1+i%4, 1+i%3))
		f(polyOf(common.times(rowOf(d.few(1+i%6)))), polyOf(common.times(rowOf(d.few(1+i%3)))))
	}
}
