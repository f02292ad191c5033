package poly_test

import (
	"encoding/binary"
	"math"
	"math/big"
	"slices"
	"testing"

	"orrery/api"
	"orrery/poly"
)

const all = math.MaxUint32

// bigOf is the integer in the form of an arithmetic that is not the program's.
func bigOf(a api.Int) *big.Int {
	var digits []byte
	for i := len(a.L) - 1; i >= 0; i-- {
		digits = binary.BigEndian.AppendUint32(digits, a.L[i])
	}
	out := new(big.Int).SetBytes(digits)
	if a.Neg {
		out.Neg(out)
	}
	return out
}

// intOf is the inverse of bigOf.
func intOf(n *big.Int) api.Int {
	out := api.Int{Neg: n.Sign() < 0}
	rest, limb := new(big.Int).Abs(n), new(big.Int)
	for rest.Sign() > 0 {
		out.L = append(out.L, uint32(limb.And(rest, big.NewInt(all)).Uint64()))
		rest.Rsh(rest, 32)
	}
	return out
}

// row is a polynomial in the other arithmetic, without zeros on top.
type row []*big.Int

func rowOf(p api.Poly) row {
	var out row
	for _, a := range p {
		out = append(out, bigOf(a))
	}
	return out.cut()
}

func (r row) cut() row {
	for len(r) > 0 && r[len(r)-1].Sign() == 0 {
		r = r[:len(r)-1]
	}
	return r
}

// zeros are n coefficients to be added to.
func zeros(n int) row {
	out := make(row, n)
	for i := range out {
		out[i] = new(big.Int)
	}
	return out
}

// plus is r + by s.
func (r row) plus(s row, by int64) row {
	out := zeros(max(len(r), len(s)))
	for i := range r {
		out[i].Add(out[i], r[i])
	}
	for i := range s {
		out[i].Add(out[i], new(big.Int).Mul(s[i], big.NewInt(by)))
	}
	return out.cut()
}

func (r row) times(s row) row {
	out := zeros(len(r) + len(s))
	for i := range r {
		for k := range s {
			out[i+k].Add(out[i+k], new(big.Int).Mul(r[i], s[k]))
		}
	}
	return out.cut()
}

// raw is the polynomial with these coefficients as they stand.
func raw(l ...int64) api.Poly {
	out := make(api.Poly, len(l))
	for i, n := range l {
		out[i] = intOf(big.NewInt(n))
	}
	return out
}

// sameInt tells whether both are one list and one sign, so that only a normal number is the same as a normal one.
func sameInt(a, b api.Int) bool {
	return a.Neg == b.Neg && slices.Equal(a.L, b.L)
}

func same(a, b api.Poly) bool {
	return slices.EqualFunc(a, b, sameInt)
}

// check tells whether got is the polynomial want, in the form of a result.
func check(t *testing.T, got api.Poly, want row, what ...any) {
	t.Helper()
	norm := want.cut()
	if len(got) != len(norm) {
		t.Fatal("got", got, "want", want, what)
	}
	for i := range got {
		if !sameInt(got[i], intOf(norm[i])) {
			t.Fatal("got", got, "want", want, what)
		}
	}
}

func checkInt(t *testing.T, got api.Int, want *big.Int, what ...any) {
	t.Helper()
	if !sameInt(got, intOf(want)) {
		t.Fatal("got", got, "want", want, what)
	}
}

// draw gives numbers from a fixed row, limbs at the bounds more often than others.
type draw uint64

func (d *draw) next(below int) int {
	*d = *d*6364136223846793005 + 1442695040888963407
	return int(uint64(*d) >> 33 % uint64(below))
}

func (d *draw) limb() uint32 {
	switch d.next(6) {
	case 0:
		return 0
	case 1:
		return all
	case 2, 3:
		return uint32(d.next(5))
	}
	return uint32(d.next(1<<16)<<16 | d.next(1<<16))
}

// number has up to size limbs, and often zero limbs on top of them.
func (d *draw) number(size int) api.Int {
	out := api.Int{Neg: d.next(2) == 1}
	for range d.next(size + 1) {
		out.L = append(out.L, d.limb())
	}
	out.L = append(out.L, make([]uint32, max(0, d.next(5)-2))...)
	return out
}

// poly has up to terms coefficients of up to size limbs, and often zero coefficients on top of them.
func (d *draw) poly(terms, size int) api.Poly {
	var out api.Poly
	for range d.next(terms + 1) {
		out = append(out, d.number(size))
	}
	for range max(0, d.next(5)-2) {
		out = append(out, d.number(0))
	}
	return out
}

// full has all the coefficients and limbs that the limits let it have, none of them 0.
func (d *draw) full() api.Poly {
	out := make(api.Poly, api.MaxTerms)
	for i := range out {
		out[i] = d.fullNumber()
	}
	return out
}

func (d *draw) fullNumber() api.Int {
	out := api.Int{Neg: d.next(2) == 1}
	for range api.MaxLimbs {
		out.L = append(out.L, d.limb()|1)
	}
	return out
}

// noughts are forms of the integer 0.
func noughts() []api.Int {
	return []api.Int{{}, {Neg: true}, {L: []uint32{}}, {L: []uint32{0}}, {Neg: true, L: []uint32{0, 0}}}
}

// noPolys are forms of the polynomial 0.
func noPolys() []api.Poly {
	out := []api.Poly{nil, {}, noughts()}
	for _, a := range noughts() {
		out = append(out, api.Poly{a})
	}
	return out
}

// edges are polynomials at the edges: every form of 0, constants, powers of t, zeros within and on top, numbers that are not normal.
func edges() []api.Poly {
	out := noPolys()
	for _, l := range [][]int64{{1}, {-1}, {7}, {0, 1}, {0, -1}, {0, 0, 1}, {1, 1}, {-1, 1}, {1, -1}, {-2, 0, 1}, {2, 0, -1}, {0, 0, 0, -5}, {1, 2, 1}, {-6, 11, -6, 1}, {1 << 40, -1 << 62, 3}} {
		p := raw(l...)
		out = append(out, p, append(slices.Clone(p), noughts()...))
	}
	for _, l := range [][]uint32{{1, 0}, {all, all, 0, 0}, {0, 1 << 31}, {0, 0, 5, 0}} {
		a, b := api.Int{L: l}, api.Int{Neg: true, L: l}
		out = append(out, api.Poly{a}, api.Poly{b}, api.Poly{a, b}, api.Poly{b, {Neg: true}, a}, api.Poly{{L: []uint32{0, 0}}, a, {Neg: true, L: []uint32{0}}})
	}
	return out
}

// small are the polynomials with up to three coefficients from -2 to 2, all with three numbers in the list.
func small() []api.Poly {
	var out []api.Poly
	for a := int64(-2); a <= 2; a++ {
		for b := int64(-2); b <= 2; b++ {
			for c := int64(-2); c <= 2; c++ {
				out = append(out, raw(a, b, c))
			}
		}
	}
	return out
}

// singles calls f with polynomials at the edges, with small ones and with drawn ones.
func singles(f func(a api.Poly)) {
	for _, a := range append(edges(), small()...) {
		f(a)
	}
	d := draw(1)
	for i := range 2000 {
		f(d.poly(1+i%9, 1+i%5))
	}
	f(d.full())
}

// pairs calls f with pairs of them.
func pairs(f func(a, b api.Poly)) {
	for _, l := range [][]api.Poly{edges(), small()} {
		for _, a := range l {
			for _, b := range l {
				f(a, b)
			}
		}
	}
	d := draw(2)
	for i := range 2000 {
		f(d.poly(1+i%9, 1+i%5), d.poly(1+i%7, 1+i%4))
	}
	f(d.full(), d.full())
}

func TestOf(t *testing.T) {
	for _, c := range []struct {
		l    []int
		want []int64
	}{
		{nil, nil}, {[]int{0}, nil}, {[]int{0, 0, 0}, nil}, {[]int{5}, []int64{5}}, {[]int{-5, 0}, []int64{-5}}, {[]int{0, 1}, []int64{0, 1}},
		{[]int{1, 0, -3, 0, 0}, []int64{1, 0, -3}}, {[]int{math.MinInt, math.MaxInt}, []int64{math.MinInt64, math.MaxInt64}}, {[]int{all, all + 1, -all - 1}, []int64{all, all + 1, -all - 1}},
	} {
		if got := poly.Of(c.l...); !same(got, raw(c.want...)) {
			t.Error(c, got)
		}
	}
	if len(poly.Of()) != 0 {
		t.Error(poly.Of())
	}
}

func TestNorm(t *testing.T) {
	singles(func(a api.Poly) {
		check(t, poly.Norm(a), rowOf(a), a)
	})
}

func TestSame(t *testing.T) {
	pairs(func(a, b api.Poly) {
		want := len(rowOf(a).plus(rowOf(b), -1)) == 0
		if poly.Same(a, b) != want || poly.Same(b, a) != want {
			t.Fatal(a, b, want)
		}
	})
	singles(func(a api.Poly) {
		widened := append(poly.Norm(a), noughts()...)
		if !poly.Same(a, widened) || !poly.Same(widened, a) {
			t.Fatal(a)
		}
		// A change of any one coefficient makes another polynomial, one on top too.
		for i := range widened {
			widened[i] = intOf(new(big.Int).Add(bigOf(widened[i]), big.NewInt(1)))
			if poly.Same(a, widened) || poly.Same(widened, a) {
				t.Fatal(a, widened)
			}
			widened[i] = intOf(new(big.Int).Sub(bigOf(widened[i]), big.NewInt(1)))
		}
	})
	if poly.Same(poly.Of(1, 2), poly.Of(1, -2)) || poly.Same(poly.Of(1, 2), poly.Of(2, 1)) || poly.Same(poly.Of(1), nil) {
		t.Error("different polynomials are the same")
	}
}

func TestAddSub(t *testing.T) {
	pairs(func(a, b api.Poly) {
		check(t, poly.Add(a, b), rowOf(a).plus(rowOf(b), 1), a, b)
		check(t, poly.Sub(a, b), rowOf(a).plus(rowOf(b), -1), a, b)
	})
}

// TestCancel: what falls away on top of a sum is not in the result.
func TestCancel(t *testing.T) {
	if got := poly.Add(poly.Of(1, 2, 3, 4), poly.Of(0, 1, -3, -4)); !same(got, raw(1, 3)) {
		t.Error(got)
	}
	if got := poly.Sub(poly.Of(1, 2, 3), poly.Of(1, 2, 3)); len(got) != 0 {
		t.Error(got)
	}
	if got := poly.Sum(poly.Of(1, 2, 3), poly.Of(0, 0, -1), poly.Of(0, -2, -2)); !same(got, raw(1)) {
		t.Error(got)
	}
}

func TestNeg(t *testing.T) {
	singles(func(a api.Poly) {
		check(t, poly.Neg(a), row{}.plus(rowOf(a), -1), a)
	})
}

func TestMul(t *testing.T) {
	pairs(func(a, b api.Poly) {
		check(t, poly.Mul(a, b), rowOf(a).times(rowOf(b)), a, b)
	})
	if got := poly.Mul(poly.Of(-1, 1), poly.Of(1, 1)); !same(got, raw(-1, 0, 1)) {
		t.Error(got)
	}
}

func TestScale(t *testing.T) {
	d := draw(3)
	factors := append(noughts(), intOf(big.NewInt(1)), intOf(big.NewInt(-1)), api.Int{Neg: true, L: []uint32{all, 7, 0}})
	singles(func(a api.Poly) {
		for _, c := range append(factors, d.number(4)) {
			check(t, poly.Scale(a, c), rowOf(a).times(row{bigOf(c)}), a, c)
		}
	})
	a, c := d.full(), d.fullNumber()
	check(t, poly.Scale(a, c), rowOf(a).times(row{bigOf(c)}))
}

func TestSumProduct(t *testing.T) {
	if len(poly.Sum()) != 0 || !same(poly.Product(), raw(1)) {
		t.Error(poly.Sum(), poly.Product())
	}
	singles(func(a api.Poly) {
		check(t, poly.Sum(a), rowOf(a), a)
		check(t, poly.Product(a), rowOf(a), a)
	})
	d := draw(4)
	for range 300 {
		var l []api.Poly
		sum, product := row{}, row{big.NewInt(1)}
		for range d.next(7) {
			a := d.poly(5, 3)
			l = append(l, a)
			sum, product = sum.plus(rowOf(a), 1), product.times(rowOf(a))
		}
		check(t, poly.Sum(l...), sum, l)
		check(t, poly.Product(l...), product, l)
	}
	for _, zero := range noPolys() {
		if got := poly.Product(poly.Of(1, 2), zero, poly.Of(3)); len(got) != 0 {
			t.Error(zero, got)
		}
		if got := poly.Sum(zero, poly.Of(1, 2), zero); !same(got, raw(1, 2)) {
			t.Error(zero, got)
		}
	}
}

func TestDerive(t *testing.T) {
	singles(func(a api.Poly) {
		p, want := rowOf(a), row{}
		for i := 1; i < len(p); i++ {
			want = append(want, new(big.Int).Mul(p[i], big.NewInt(int64(i))))
		}
		check(t, poly.Derive(a), want, a)
	})
	if got := poly.Derive(poly.Of(5, -3, 0, 4)); !same(got, raw(-3, 0, 12)) {
		t.Error(got)
	}
	if len(poly.Derive(poly.Of(5))) != 0 || len(poly.Derive(append(poly.Of(5), noughts()...))) != 0 {
		t.Error("the derivative of a constant is not 0")
	}
}

func TestLead(t *testing.T) {
	singles(func(a api.Poly) {
		want := new(big.Int)
		if p := rowOf(a); len(p) > 0 {
			want = p[len(p)-1]
		}
		checkInt(t, poly.Lead(a), want, a)
	})
	if got := poly.Lead(poly.Of(1, -3, 0)); !sameInt(got, intOf(big.NewInt(-3))) {
		t.Error(got)
	}
}
