package isolate_test

import (
	"encoding/binary"
	"math"
	"math/big"
	"slices"

	"orrery/api"
)

const all = math.MaxUint32

// bigOf is the integer in the form of an arithmetic that is not the program's.
func bigOf(a api.Int) *big.Int {
	var digits []byte
	for i := len(a.L) - 1; i >= 0; i-- {
		digits = binary.BigEndian.AppendUint32(digits, a.L[i])
	}
	out := new(big.Int).SetBytes(digits)
	if a.Neg {
		out.Neg(out)
	}
	return out
}

// intOf is the inverse of bigOf.
func intOf(n *big.Int) api.Int {
	out := api.Int{Neg: n.Sign() < 0}
	rest, limb := new(big.Int).Abs(n), new(big.Int)
	for rest.Sign() > 0 {
		out.L = append(out.L, uint32(limb.And(rest, big.NewInt(all)).Uint64()))
		rest.Rsh(rest, 32)
	}
	return out
}

// bigRat is the rational number in the other arithmetic; its D is not 0.
func bigRat(a api.Rat) *big.Rat {
	return new(big.Rat).SetFrac(bigOf(a.Int), bigOf(a.D))
}

// ratOf is the rational number in the form of a result.
func ratOf(x *big.Rat) api.Rat {
	return api.Rat{Int: intOf(x.Num()), D: intOf(x.Denom())}
}

// fraction is n / d as it stands.
func fraction(n, d int64) api.Rat {
	p := raw(n, d)
	return api.Rat{Int: p[0], D: p[1]}
}

// row is a polynomial in the other arithmetic, the lowest coefficient first, without zeros on top.
type row []*big.Rat

func (r row) cut() row {
	for len(r) > 0 && r[len(r)-1].Sign() == 0 {
		r = r[:len(r)-1]
	}
	return r
}

func rowOf(p api.Poly) row {
	var out row
	for _, a := range p {
		out = append(out, new(big.Rat).SetInt(bigOf(a)))
	}
	return out.cut()
}

// polyOf is the inverse of rowOf.
func polyOf(r row) api.Poly {
	var out api.Poly
	for _, x := range r {
		out = append(out, intOf(x.Num()))
	}
	return out
}

// small is the polynomial with these coefficients.
func small(l ...int64) row {
	var out row
	for _, n := range l {
		out = append(out, big.NewRat(n, 1))
	}
	return out.cut()
}

// raw is the polynomial with these coefficients as they stand.
func raw(l ...int64) api.Poly {
	var out api.Poly
	for _, n := range l {
		out = append(out, intOf(big.NewInt(n)))
	}
	return out
}

func (r row) times(s row) row {
	out := make(row, len(r)+len(s))
	for i := range out {
		out[i] = new(big.Rat)
	}
	for i := range r {
		for k := range s {
			out[i+k].Add(out[i+k], new(big.Rat).Mul(r[i], s[k]))
		}
	}
	return out.cut()
}

func (r row) scaled(c *big.Rat) row {
	return r.times(row{c})
}

// derived is the derivative.
func (r row) derived() row {
	var out row
	for i := 1; i < len(r); i++ {
		out = append(out, new(big.Rat).Mul(r[i], big.NewRat(int64(i), 1)))
	}
	return out
}

// divide is the quotient and the remainder of r by s over the rational numbers; s is not 0.
func (r row) divide(s row) (q, rest row) {
	rest = slices.Clone(r)
	n := len(s)
	q = make(row, max(0, len(r)-n+1))
	for i := len(q) - 1; i >= 0; i-- {
		q[i] = new(big.Rat).Quo(rest[i+n-1], s[n-1])
		for k := range s {
			rest[i+k] = new(big.Rat).Sub(rest[i+k], new(big.Rat).Mul(q[i], s[k]))
		}
	}
	return q, rest.cut()
}

// reduced is r times the number above 0 that makes integers without a common divisor of the coefficients.
func (r row) reduced() row {
	by, content := big.NewInt(1), new(big.Int)
	for _, x := range r {
		by.Mul(by, new(big.Int).Quo(x.Denom(), new(big.Int).GCD(nil, nil, by, x.Denom())))
	}
	out := r.scaled(new(big.Rat).SetInt(by))
	for _, x := range out {
		content.GCD(nil, nil, content, new(big.Int).Abs(x.Num()))
	}
	if len(out) == 0 {
		return nil
	}
	return out.scaled(new(big.Rat).SetFrac(big.NewInt(1), content))
}

// square is the squarefree part of r, which is not 0: primitive, its leading coefficient above 0.
func (r row) square() row {
	g, s := r, r.derived()
	for len(s) > 0 {
		_, rest := g.divide(s)
		g, s = s, rest.reduced()
	}
	out, _ := r.divide(g)
	out = out.reduced()
	if out[len(out)-1].Sign() < 0 {
		return out.scaled(big.NewRat(-1, 1))
	}
	return out
}

// at is the value of r at t.
func (r row) at(t *big.Rat) *big.Rat {
	out := new(big.Rat)
	for i := len(r) - 1; i >= 0; i-- {
		out.Add(out.Mul(out, t), r[i])
	}
	return out
}

// bound is a number that is above all real roots, its negative being below them; r is not 0.
func (r row) bound() *big.Rat {
	out := new(big.Rat)
	for _, x := range r {
		out.Add(out, new(big.Rat).Abs(new(big.Rat).Quo(x, r[len(r)-1])))
	}
	return out.Add(out, big.NewRat(1, 1))
}

// counter counts roots by the sign changes in the chain of a polynomial and its derivative (Sturm's way).
type counter []row

func counterOf(r row) counter {
	out := counter{r}
	for last, next := r, r.derived(); len(next) > 0; {
		out = append(out, next)
		_, rest := last.divide(next)
		last, next = next, rest.reduced().scaled(big.NewRat(-1, 1))
	}
	return out
}

func (c counter) changes(t *big.Rat) int {
	n, last := 0, 0
	for _, r := range c {
		if s := r.at(t).Sign(); s != 0 {
			if s == -last {
				n++
			}
			last = s
		}
	}
	return n
}

// between is how many different roots are above lo and at most hi; nil bounds nothing.
func (c counter) between(lo, hi *big.Rat) int {
	far := c[0].bound()
	if hi == nil {
		hi = far
	}
	if lo == nil {
		lo = new(big.Rat).Neg(far)
	}
	if hi.Cmp(lo) <= 0 {
		return 0
	}
	return c.changes(lo) - c.changes(hi)
}

// one tells whether the polynomial, if it is squarefree, has exactly one root above lo and at most hi; where they are equal, whether they are a root.
func (c counter) one(lo, hi *big.Rat) bool {
	if lo.Cmp(hi) == 0 {
		return len(c[0]) > 1 && c[0].at(lo).Sign() == 0
	}
	return c.between(lo, hi) == 1
}

// sameInt tells whether both are one list and one sign, so that only a normal number is the same as a normal one.
func sameInt(a, b api.Int) bool {
	return a.Neg == b.Neg && slices.Equal(a.L, b.L)
}

func sameRat(a, b api.Rat) bool {
	return sameInt(a.Int, b.Int) && sameInt(a.D, b.D)
}

func same(a, b api.Poly) bool {
	return slices.EqualFunc(a, b, sameInt)
}

func sameAlg(a, b api.Alg) bool {
	return same(a.P, b.P) && sameRat(a.Lo, b.Lo) && sameRat(a.Hi, b.Hi)
}

func equal(a, b []api.Alg) bool {
	return slices.EqualFunc(a, b, sameAlg)
}

// draw gives numbers from a fixed row, limbs at the bounds more often than others.
type draw uint64

func (d *draw) next(below int) int {
	*d = *d*6364136223846793005 + 1442695040888963407
	return int(uint64(*d) >> 33 % uint64(below))
}

func (d *draw) limb() uint32 {
	switch d.next(6) {
	case 0:
		return 0
	case 1:
		return all
	case 2, 3:
		return uint32(d.next(5))
	}
	return uint32(d.next(1<<16)<<16 | d.next(1<<16))
}

// number has up to size limbs, and often zero limbs on top of them.
func (d *draw) number(size int) api.Int {
	out := api.Int{Neg: d.next(2) == 1}
	for range d.next(size + 1) {
		out.L = append(out.L, d.limb())
	}
	out.L = append(out.L, make([]uint32, max(0, d.next(5)-2))...)
	return out
}

// poly has up to terms coefficients of up to size limbs, and often zero coefficients on top of them.
func (d *draw) poly(terms, size int) api.Poly {
	var out api.Poly
	for range d.next(terms + 1) {
		out = append(out, d.number(size))
	}
	for range max(0, d.next(5)-2) {
		out = append(out, d.number(0))
	}
	return out
}

// few has terms coefficients between -9 and 9, some of them 0, the leading one not.
func (d *draw) few(terms int) row {
	var l []int64
	for range terms {
		l = append(l, int64(d.next(19)-9))
	}
	if l[terms-1] == 0 {
		l[terms-1] = 5
	}
	return small(l...)
}

// long has terms coefficients of size limbs, none of them 0.
func (d *draw) long(terms, size int) api.Poly {
	out := make(api.Poly, terms)
	for i := range out {
		out[i] = api.Int{Neg: d.next(2) == 1}
		for range size {
			out[i].L = append(out[i].L, d.limb()|1)
		}
	}
	return out
}

// time is a rational number of up to size limbs over up to size limbs.
func (d *draw) time(size int) *big.Rat {
	under := bigOf(d.number(size))
	return new(big.Rat).SetFrac(bigOf(d.number(size)), under.Add(under.Abs(under), big.NewInt(1)))
}

// noughts are forms of the integer 0.
func noughts() []api.Int {
	return []api.Int{{}, {Neg: true}, {L: []uint32{}}, {L: []uint32{0}}, {Neg: true, L: []uint32{0, 0}}}
}

// noPolys are forms of the polynomial 0.
func noPolys() []api.Poly {
	out := []api.Poly{nil, {}, noughts()}
	for _, a := range noughts() {
		out = append(out, api.Poly{a})
	}
	return out
}

// polys calls f with polynomials that are not 0: at the edges, small, drawn, long ones, and products of powers.
func polys(f func(p api.Poly)) {
	for _, l := range [][]int64{{1}, {-1}, {-6}, {0, 1}, {0, -1}, {-4, 6}, {4, -6}, {0, 0, 0, -5}, {1, 0, 0, 0, 0, 1}, {0, 0, 1, 0, 0, -1}, {1 << 40, -1 << 62, 3}, {-4, 0, 6, 0, 0, -10}} {
		f(raw(l...))
		f(append(raw(l...), noughts()...))
	}
	for a := int64(-2); a <= 2; a++ {
		for b := int64(-2); b <= 2; b++ {
			for _, c := range []int64{-3, -1, 0, 2} {
				f(raw(a, b, c, 1))
				f(raw(b, a, c, -2, 0))
			}
		}
	}
	d := draw(1)
	for i := range 300 {
		if p := d.poly(1+i%9, 1+i%4); len(rowOf(p)) > 0 {
			f(p)
		}
		r := d.few(1 + i%9)
		f(polyOf(r))
		for range i % 3 {
			s := d.few(1 + d.next(3))
			r = r.times(s).times(s)
		}
		f(polyOf(r))
	}
	f(d.long(8, api.MaxLimbs))
	f(d.long(20, 5))
	f(d.long(32, 1))
}
