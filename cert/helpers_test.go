package cert_test

import (
	"encoding/binary"
	"math"
	"math/big"
	"slices"

	"orrery/api"
)

const all = math.MaxUint32

// bigOf is the integer in the form of an arithmetic that is not the program's.
func bigOf(a api.Int) *big.Int {
	var digits []byte
	for i := len(a.L) - 1; i >= 0; i-- {
		digits = binary.BigEndian.AppendUint32(digits, a.L[i])
	}
	out := new(big.Int).SetBytes(digits)
	if a.Neg {
		out.Neg(out)
	}
	return out
}

// intOf is the inverse of bigOf.
func intOf(n *big.Int) api.Int {
	out := api.Int{Neg: n.Sign() < 0}
	rest, limb := new(big.Int).Abs(n), new(big.Int)
	for rest.Sign() > 0 {
		out.L = append(out.L, uint32(limb.And(rest, big.NewInt(all)).Uint64()))
		rest.Rsh(rest, 32)
	}
	return out
}

// divisor is the number that a counts as where it is a D.
func divisor(a api.Int) *big.Int {
	if out := bigOf(a); out.Sign() != 0 {
		return out
	}
	return big.NewInt(1)
}

// bigRat is the rational number in the other arithmetic.
func bigRat(a api.Rat) *big.Rat {
	return new(big.Rat).SetFrac(bigOf(a.Int), divisor(a.D))
}

// ratOf is the rational number in the form of a result.
func ratOf(x *big.Rat) api.Rat {
	return api.Rat{Int: intOf(x.Num()), D: intOf(x.Denom())}
}

// fraction is n / d as it stands.
func fraction(n, d int64) api.Rat {
	p := raw(n, d)
	return api.Rat{Int: p[0], D: p[1]}
}

// row is a polynomial in the other arithmetic, the lowest coefficient first, without zeros on top.
type row []*big.Rat

func (r row) cut() row {
	for len(r) > 0 && r[len(r)-1].Sign() == 0 {
		r = r[:len(r)-1]
	}
	return r
}

// rowOf is p / d.
func rowOf(p api.Poly, d api.Int) row {
	var out row
	for _, a := range p {
		out = append(out, new(big.Rat).SetFrac(bigOf(a), divisor(d)))
	}
	return out.cut()
}

// raw is the polynomial with these coefficients as they stand.
func raw(l ...int64) api.Poly {
	var out api.Poly
	for _, n := range l {
		out = append(out, intOf(big.NewInt(n)))
	}
	return out
}

// one is an integer.
func one(n int64) api.Int {
	return intOf(big.NewInt(n))
}

// at is the value of r at t.
func (r row) at(t *big.Rat) *big.Rat {
	out := new(big.Rat)
	for i := len(r) - 1; i >= 0; i-- {
		out.Add(out.Mul(out, t), r[i])
	}
	return out
}

// derived is the derivative.
func (r row) derived() row {
	var out row
	for i := 1; i < len(r); i++ {
		out = append(out, new(big.Rat).Mul(r[i], big.NewRat(int64(i), 1)))
	}
	return out
}

func (r row) times(s row) row {
	out := zeros(len(r) + len(s))
	for i, x := range r {
		for k, y := range s {
			out[i+k].Add(out[i+k], new(big.Rat).Mul(x, y))
		}
	}
	return out.cut()
}

// plus is r + by s.
func (r row) plus(s row, by int64) row {
	out := zeros(max(len(r), len(s)))
	for i, x := range r {
		out[i].Add(out[i], x)
	}
	for i, y := range s {
		out[i].Add(out[i], new(big.Rat).Mul(y, big.NewRat(by, 1)))
	}
	return out.cut()
}

func (r row) minus(s row) row {
	return r.plus(s, -1)
}

func (r row) squared() row {
	return r.times(r)
}

// zeros has n coefficients, all of them 0.
func zeros(n int) row {
	out := make(row, n)
	for i := range out {
		out[i] = new(big.Rat)
	}
	return out
}

// path is a curve in the other arithmetic.
type path struct {
	x, y row
}

func pathOf(c api.Curve) path {
	return path{rowOf(c.X, c.D), rowOf(c.Y, c.D)}
}

// curve is the path in the form of a result: the least D above 0 over which all coefficients are integers.
func (p path) curve() api.Curve {
	d := big.NewInt(1)
	for _, x := range slices.Concat(p.x, p.y) {
		g := new(big.Int).GCD(nil, nil, d, x.Denom())
		d.Mul(d, g.Quo(x.Denom(), g))
	}
	return api.Curve{X: p.x.over(d), Y: p.y.over(d), D: intOf(d)}
}

// over has the coefficients times d, which are integers.
func (r row) over(d *big.Int) api.Poly {
	var out api.Poly
	for _, x := range r {
		out = append(out, intOf(new(big.Rat).Mul(x, new(big.Rat).SetInt(d)).Num()))
	}
	return out
}

// poly is r, whose coefficients are integers, in the form of a result.
func (r row) poly() api.Poly {
	return r.over(big.NewInt(1))
}

// sameInt tells whether both are one list and one sign, so that only a normal number is the same as a normal one.
func sameInt(a, b api.Int) bool {
	return a.Neg == b.Neg && slices.Equal(a.L, b.L)
}

func sameRat(a, b api.Rat) bool {
	return sameInt(a.Int, b.Int) && sameInt(a.D, b.D)
}

func same(a, b api.Poly) bool {
	return slices.EqualFunc(a, b, sameInt)
}

func sameAlg(a, b api.Alg) bool {
	return same(a.P, b.P) && sameRat(a.Lo, b.Lo) && sameRat(a.Hi, b.Hi)
}

func sameCert(a, b api.Cert) bool {
	return a.Tag == b.Tag && same(a.P, b.P) && a.Want == b.Want
}

func sameEvent(a, b api.Event) bool {
	return a.Tag == b.Tag && sameAlg(a.At, b.At)
}

// draw gives numbers from a fixed row.
type draw uint64

func (d *draw) next(below int) int {
	*d = *d*6364136223846793005 + 1442695040888963407
	return int(uint64(*d) >> 33 % uint64(below))
}

// few has at most terms coefficients between -9 and 9 times a common factor, some of them 0.
func (d *draw) few(terms int) api.Poly {
	var l []int64
	by := []int64{1, 1, 2, 6}[d.next(4)]
	for range d.next(terms + 1) {
		l = append(l, by*int64(d.next(19)-9))
	}
	return raw(l...)
}

// curve is a drawn curve of a degree up to MaxDeg, which need not be normal; its D may be 0 or below 0.
func (d *draw) curve() api.Curve {
	return api.Curve{X: d.few(api.MaxDeg + 1), Y: d.few(api.MaxDeg + 1), D: one(int64(d.next(25) - 12))}
}

// points are n drawn points, some of which may have one name.
func (d *draw) points(n int) []api.Point {
	var out []api.Point
	for range n {
		out = append(out, api.Point{Curve: d.curve(), Id: d.next(30)})
	}
	return out
}

// limbs is a number of size limbs.
func (d *draw) limbs(size int) api.Int {
	out := api.Int{Neg: d.next(2) == 1}
	for range size {
		out.L = append(out.L, uint32(d.next(1<<16)<<16|d.next(1<<16)))
	}
	out.L[0] |= 1
	out.L[size-1] |= 1 << 31
	return out
}

// long has terms coefficients of size limbs.
func (d *draw) long(terms, size int) api.Poly {
	out := make(api.Poly, terms)
	for i := range out {
		out[i] = d.limbs(size)
	}
	return out
}

// noughts are forms of the integer 0.
func noughts() []api.Int {
	return []api.Int{{}, {Neg: true}, {L: []uint32{}}, {L: []uint32{0}}, {Neg: true, L: []uint32{0, 0}}}
}

// noPolys are forms of the polynomial 0.
func noPolys() []api.Poly {
	out := []api.Poly{nil, {}, noughts()}
	for _, a := range noughts() {
		out = append(out, api.Poly{a})
	}
	return out
}
