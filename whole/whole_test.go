package whole_test

import (
	"fmt"
	"math"
	"math/big"
	"slices"
	"testing"

	"orrery/api"
	"orrery/whole"
)

const all = math.MaxUint32

// bigOf is the number in the form of an arithmetic that is not the program's.
func bigOf(a api.Int) *big.Int {
	out := new(big.Int)
	for i := len(a.L) - 1; i >= 0; i-- {
		out.Lsh(out, 32)
		out.Or(out, big.NewInt(int64(a.L[i])))
	}
	if a.Neg {
		out.Neg(out)
	}
	return out
}

// intOf is the inverse of bigOf.
func intOf(n *big.Int) api.Int {
	out := api.Int{Neg: n.Sign() < 0}
	rest, limb := new(big.Int).Abs(n), new(big.Int)
	for rest.Sign() > 0 {
		out.L = append(out.L, uint32(limb.And(rest, big.NewInt(all)).Uint64()))
		rest.Rsh(rest, 32)
	}
	return out
}

// check tells whether got is the number want, in normal form.
func check(t *testing.T, got api.Int, want *big.Int, what ...any) {
	t.Helper()
	if n := len(got.L); n > 0 && got.L[n-1] == 0 || n == 0 && got.Neg {
		t.Fatal("not normal:", got, fmt.Sprint(what...))
	}
	if bigOf(got).Cmp(want) != 0 {
		t.Fatal("got", bigOf(got), "want", want, fmt.Sprint(what...))
	}
}

// draw gives numbers from a fixed row, limbs at the bounds more often than others.
type draw uint64

func (d *draw) next(below int) int {
	*d = *d*6364136223846793005 + 1442695040888963407
	return int(uint64(*d) >> 33 % uint64(below))
}

func (d *draw) limb() uint32 {
	switch d.next(6) {
	case 0:
		return 0
	case 1:
		return all
	case 2:
		return 1 << 31
	case 3:
		return uint32(d.next(3))
	}
	return uint32(d.next(1<<16)<<16 | d.next(1<<16))
}

// number has up to size limbs, and often zero limbs on top of them.
func (d *draw) number(size int) api.Int {
	out := api.Int{Neg: d.next(2) == 1}
	for range d.next(size + 1) {
		out.L = append(out.L, d.limb())
	}
	for range max(0, d.next(5)-2) {
		out.L = append(out.L, 0)
	}
	return out
}

// row has up to 10 numbers.
func (d *draw) row(size int) []api.Int {
	var out []api.Int
	for range d.next(11) {
		out = append(out, d.number(size))
	}
	return out
}

// numbers are those at the edges, above and below 0, each one bare and with zero limbs on top.
func numbers() []api.Int {
	var out []api.Int
	for _, l := range [][]uint32{nil, {}, {1}, {2}, {7}, {all - 1}, {all}, {0, 1}, {1, 1}, {all, 1<<30 - 1}, {0, 1 << 30}, {all, all}, {0, 0, 1}, {6, 0, 4}, {all, 0, all}, {all, all, all, all}} {
		for _, neg := range []bool{false, true} {
			out = append(out, api.Int{Neg: neg, L: l}, api.Int{Neg: neg, L: append(slices.Clone(l), 0, 0)})
		}
	}
	return out
}

// pairs calls f with pairs at the edges and with drawn ones.
func pairs(f func(a, b api.Int)) {
	for _, a := range numbers() {
		for _, b := range numbers() {
			f(a, b)
		}
	}
	d := draw(1)
	for i := range 6000 {
		f(d.number(1+i%9), d.number(1+i%5))
	}
	for range 60 {
		f(d.number(64), d.number(64))
	}
}

func TestOf(t *testing.T) {
	for _, n := range []int{0, 1, -1, 2, -7, all, -all, all + 1, -all - 1, 1 << 40, 1<<62 - 1, 1 << 62, -1 << 62, math.MaxInt, -math.MaxInt, math.MinInt} {
		check(t, whole.Of(n), big.NewInt(int64(n)), n)
	}
}

func TestNorm(t *testing.T) {
	pairs(func(a, _ api.Int) {
		check(t, whole.Norm(a), bigOf(a), a)
	})
	if got := whole.Norm(api.Int{Neg: true, L: []uint32{5, 0, 7, 0, 0}}); !got.Neg || !slices.Equal(got.L, []uint32{5, 0, 7}) {
		t.Error(got)
	}
}

func TestCmp(t *testing.T) {
	pairs(func(a, b api.Int) {
		if got, want := whole.Cmp(a, b), bigOf(a).Cmp(bigOf(b)); got != want {
			t.Fatal(a, b, got)
		}
		if whole.Cmp(a, intOf(bigOf(a))) != 0 {
			t.Fatal(a)
		}
	})
}

func TestNegAbs(t *testing.T) {
	pairs(func(a, _ api.Int) {
		check(t, whole.Neg(a), new(big.Int).Neg(bigOf(a)), a)
		check(t, whole.Abs(a), new(big.Int).Abs(bigOf(a)), a)
	})
}

func TestAddSubMul(t *testing.T) {
	pairs(func(a, b api.Int) {
		check(t, whole.Add(a, b), new(big.Int).Add(bigOf(a), bigOf(b)), a, b)
		check(t, whole.Sub(a, b), new(big.Int).Sub(bigOf(a), bigOf(b)), a, b)
		check(t, whole.Mul(a, b), new(big.Int).Mul(bigOf(a), bigOf(b)), a, b)
	})
}

func TestSumProduct(t *testing.T) {
	check(t, whole.Sum(), big.NewInt(0))
	check(t, whole.Product(), big.NewInt(1))
	check(t, whole.Sum(whole.Of(5), whole.Of(-9), whole.Of(1)), big.NewInt(-3))
	check(t, whole.Product(whole.Of(5), whole.Of(-9), whole.Of(2)), big.NewInt(-90))
	for _, a := range numbers() {
		check(t, whole.Sum(a), bigOf(a), a)
		check(t, whole.Product(a), bigOf(a), a)
		check(t, whole.Sum(a, whole.Of(3), whole.Neg(a)), big.NewInt(3), a)
		check(t, whole.Product(whole.Of(-3), a, whole.Of(0)), big.NewInt(0), a)
	}
	d := draw(2)
	for range 2000 {
		l := d.row(4)
		sum, product := big.NewInt(0), big.NewInt(1)
		for _, a := range l {
			sum.Add(sum, bigOf(a))
			product.Mul(product, bigOf(a))
		}
		check(t, whole.Sum(l...), sum, l)
		check(t, whole.Product(l...), product, l)
	}
}

func TestPow(t *testing.T) {
	powers := []struct{ n, as int }{{0, 0}, {1, 1}, {2, 2}, {3, 3}, {4, 4}, {10, 10}, {127, 127}, {255, 255}, {256, 256}, {257, 256}, {512, 256}, {math.MaxInt, 256}, {-1, 0}, {-2, 0}, {-256, 0}, {math.MinInt, 0}}
	for _, a := range numbers() {
		for _, p := range powers {
			check(t, whole.Pow(a, p.n), new(big.Int).Exp(bigOf(a), big.NewInt(int64(p.as)), nil), a, p)
		}
	}
	for n := range 257 {
		check(t, whole.Pow(whole.Of(-3), n), new(big.Int).Exp(big.NewInt(-3), big.NewInt(int64(n)), nil), n)
	}
}

func TestSmall(t *testing.T) {
	for _, n := range []int{0, 1, -1, 7, -7, all, -all, all + 1, -all - 1, 1<<62 - 1, 1 - 1<<62} {
		for top := range 3 {
			a := whole.Of(n)
			a.L = append(a.L, make([]uint32, top)...)
			if got, ok := whole.Small(a); got != n || !ok {
				t.Error(n, top, got, ok)
			}
		}
	}
	if got, ok := whole.Small(api.Int{Neg: true, L: []uint32{0, 0, 0}}); got != 0 || !ok {
		t.Error(got, ok)
	}
	for _, n := range []int{1 << 62, -1 << 62, math.MaxInt, -math.MaxInt, math.MinInt} {
		if got, ok := whole.Small(whole.Of(n)); got != 0 || ok {
			t.Error(n, got, ok)
		}
	}
	for _, l := range [][]uint32{{0, 1 << 31}, {0, 0, 1}, {5, 0, 1, 0}, {all, all, all}} {
		for _, neg := range []bool{false, true} {
			if got, ok := whole.Small(api.Int{Neg: neg, L: l}); got != 0 || ok {
				t.Error(l, neg, got, ok)
			}
		}
	}
}
