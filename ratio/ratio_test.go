package ratio_test

import (
	"math"
	"math/big"
	"slices"
	"testing"

	"orrery/api"
	"orrery/ratio"
)

const all = math.MaxUint32

// bigOf is the integer in the form of an arithmetic that is not the program's.
func bigOf(a api.Int) *big.Int {
	out := new(big.Int)
	for i := len(a.L) - 1; i >= 0; i-- {
		out.Lsh(out, 32)
		out.Or(out, big.NewInt(int64(a.L[i])))
	}
	if a.Neg {
		out.Neg(out)
	}
	return out
}

// fracOf is the number that a counts as: a denominator of 0 is 1.
func fracOf(a api.Rat) *big.Rat {
	n, d := bigOf(a.Int), bigOf(a.D)
	if d.Sign() == 0 {
		d.SetInt64(1)
	}
	return new(big.Rat).SetFrac(n, d)
}

// intOf is the inverse of bigOf.
func intOf(n *big.Int) api.Int {
	out := api.Int{Neg: n.Sign() < 0}
	rest, limb := new(big.Int).Abs(n), new(big.Int)
	for rest.Sign() > 0 {
		out.L = append(out.L, uint32(limb.And(rest, big.NewInt(all)).Uint64()))
		rest.Rsh(rest, 32)
	}
	return out
}

// ratOf is the inverse of fracOf: in lowest terms, with a denominator above 0.
func ratOf(f *big.Rat) api.Rat {
	return api.Rat{Int: intOf(f.Num()), D: intOf(f.Denom())}
}

// raw is n / d just as they stand, not brought into any form.
func raw(n, d int64) api.Rat {
	return api.Rat{Int: intOf(big.NewInt(n)), D: intOf(big.NewInt(d))}
}

// sameInt tells whether both are one list and one sign, so that only a normal number is the same as a normal one.
func sameInt(a, b api.Int) bool {
	return a.Neg == b.Neg && slices.Equal(a.L, b.L)
}

func same(a, b api.Rat) bool {
	return sameInt(a.Int, b.Int) && sameInt(a.D, b.D)
}

// none tells whether a is the zero value that comes beside an error.
func none(a api.Rat) bool {
	return same(a, api.Rat{})
}

// check tells whether got is the number want, in the form of a result.
func check(t *testing.T, got api.Rat, want *big.Rat, what ...any) {
	t.Helper()
	if !same(got, ratOf(want)) {
		t.Fatal("got", got, "want", want, what)
	}
}

func checkInt(t *testing.T, got api.Int, want *big.Int, what ...any) {
	t.Helper()
	if !sameInt(got, intOf(want)) {
		t.Fatal("got", got, "want", want, what)
	}
}

// draw gives numbers from a fixed row, limbs at the bounds more often than others.
type draw uint64

func (d *draw) next(below int) int {
	*d = *d*6364136223846793005 + 1442695040888963407
	return int(uint64(*d) >> 33 % uint64(below))
}

func (d *draw) limb() uint32 {
	switch d.next(6) {
	case 0:
		return 0
	case 1:
		return all
	case 2, 3:
		return uint32(d.next(5))
	}
	return uint32(d.next(1<<16)<<16 | d.next(1<<16))
}

// number has up to size limbs, and often zero limbs on top of them.
func (d *draw) number(size int) api.Int {
	out := api.Int{Neg: d.next(2) == 1}
	for range d.next(size + 1) {
		out.L = append(out.L, d.limb())
	}
	out.L = append(out.L, make([]uint32, max(0, d.next(5)-2))...)
	return out
}

// times is a times b, as it stands.
func times(a, b api.Int) api.Int {
	return intOf(new(big.Int).Mul(bigOf(a), bigOf(b)))
}

// fraction has up to size limbs above and below, often with a factor that both have.
func (d *draw) fraction(size int) api.Rat {
	out := api.Rat{Int: d.number(size), D: d.number(size)}
	if d.next(3) == 0 {
		by := d.number(size)
		out = api.Rat{Int: times(out.Int, by), D: times(out.D, by)}
	}
	return out
}

// ints are integers at the edges, normal ones and others.
func ints() []api.Int {
	var out []api.Int
	for _, l := range [][]uint32{nil, {0}, {0, 0, 0}, {1}, {1, 0}, {2}, {3, 0, 0}, {4}, {6}, {7}, {12}, {all}, {0, 1}, {0, 1 << 31, 0}, {all, all}, {1, 0, 5}} {
		out = append(out, api.Int{L: l}, api.Int{Neg: true, L: l})
	}
	return out
}

// numbers are those of all pairs of such integers, a denominator of 0 among them.
func numbers() []api.Rat {
	var out []api.Rat
	for _, n := range ints() {
		for _, d := range ints() {
			out = append(out, api.Rat{Int: n, D: d})
		}
	}
	return out
}

// singles calls f with numbers at the edges and with drawn ones.
func singles(f func(a api.Rat)) {
	for _, a := range numbers() {
		f(a)
	}
	d := draw(1)
	for i := range 3000 {
		f(d.fraction(1 + i%6))
	}
	for range 100 {
		f(d.fraction(api.MaxLimbs))
	}
}

// pairs calls f with pairs at the edges, with small ones and with drawn ones.
func pairs(f func(a, b api.Rat)) {
	d := draw(2)
	edges := numbers()
	for _, a := range edges {
		f(a, a)
		for range 20 {
			f(a, edges[d.next(len(edges))])
		}
	}
	for an := int64(-4); an <= 4; an++ {
		for ad := int64(-4); ad <= 4; ad++ {
			for bn := int64(-4); bn <= 4; bn++ {
				for bd := int64(-4); bd <= 4; bd++ {
					f(raw(an, ad), raw(bn, bd))
				}
			}
		}
	}
	for i := range 3000 {
		f(d.fraction(1+i%6), d.fraction(1+i%4))
	}
	for range 30 {
		f(d.fraction(api.MaxLimbs), d.fraction(api.MaxLimbs))
	}
}

func TestMake(t *testing.T) {
	singles(func(a api.Rat) {
		got, err := ratio.Make(a.Int, a.D)
		if bigOf(a.D).Sign() == 0 {
			if err != api.ErrZero || !none(got) {
				t.Fatal(a, got, err)
			}
			return
		}
		if err != api.OK {
			t.Fatal(a, err)
		}
		check(t, got, fracOf(a), a)
	})
	if got, err := ratio.Make(raw(2, 1).Int, raw(-4, 1).Int); err != api.OK || !same(got, raw(-1, 2)) {
		t.Error(got, err)
	}
}

func TestOf(t *testing.T) {
	edge := []int{0, 1, -1, 2, -2, 3, -4, 6, 60, -90, all, all + 1, -all - 1, 1 << 62, -1 << 62, math.MaxInt, -math.MaxInt, math.MinInt}
	for _, n := range edge {
		for _, d := range edge {
			got, err := ratio.Of(n, d)
			if d == 0 {
				if err != api.ErrZero || !none(got) {
					t.Error(n, got, err)
				}
				continue
			}
			if err != api.OK {
				t.Error(n, d, err)
			}
			check(t, got, big.NewRat(int64(n), int64(d)), n, d)
		}
	}
}

func TestInt(t *testing.T) {
	for _, a := range ints() {
		check(t, ratio.Int(a), new(big.Rat).SetInt(bigOf(a)), a)
	}
	d := draw(3)
	for i := range 500 {
		a := d.number(1 + i%9)
		check(t, ratio.Int(a), new(big.Rat).SetInt(bigOf(a)), a)
	}
}

func TestCmp(t *testing.T) {
	pairs(func(a, b api.Rat) {
		if got, want := ratio.Cmp(a, b), fracOf(a).Cmp(fracOf(b)); got != want {
			t.Fatal(a, b, got, want)
		}
	})
}

// TestCmpClose: numbers that differ only far behind the point.
func TestCmpClose(t *testing.T) {
	for n := range uint(300) {
		step := new(big.Rat).SetFrac(big.NewInt(1), new(big.Int).Lsh(big.NewInt(1), n))
		third := big.NewRat(-1, 3)
		a, b := ratOf(third), ratOf(new(big.Rat).Add(third, step))
		if ratio.Cmp(a, b) != -1 || ratio.Cmp(b, a) != 1 || ratio.Cmp(a, a) != 0 {
			t.Error(n, a, b)
		}
	}
}

func TestAddSubMul(t *testing.T) {
	pairs(func(a, b api.Rat) {
		x, y := fracOf(a), fracOf(b)
		check(t, ratio.Add(a, b), new(big.Rat).Add(x, y), a, b)
		check(t, ratio.Sub(a, b), new(big.Rat).Sub(x, y), a, b)
		check(t, ratio.Mul(a, b), new(big.Rat).Mul(x, y), a, b)
	})
}

func TestQuo(t *testing.T) {
	pairs(func(a, b api.Rat) {
		got, err := ratio.Quo(a, b)
		if fracOf(b).Sign() == 0 {
			if err != api.ErrZero || !none(got) {
				t.Fatal(a, b, got, err)
			}
			return
		}
		if err != api.OK {
			t.Fatal(a, b, err)
		}
		check(t, got, new(big.Rat).Quo(fracOf(a), fracOf(b)), a, b)
	})
}

// TestQuoZero: ErrZero comes for every form of 0, whatever is divided; a denominator of 0 alone is no 0.
func TestQuoZero(t *testing.T) {
	for _, a := range numbers() {
		for _, b := range []api.Rat{{}, raw(0, 1), raw(0, -7), {Int: api.Int{Neg: true, L: []uint32{0, 0}}, D: api.Int{Neg: true, L: []uint32{0}}}} {
			if got, err := ratio.Quo(a, b); err != api.ErrZero || !none(got) {
				t.Error(a, b, got, err)
			}
		}
		got, err := ratio.Quo(a, raw(-2, 0))
		if err != api.OK {
			t.Error(a, err)
		}
		check(t, got, new(big.Rat).Quo(fracOf(a), big.NewRat(-2, 1)), a)
	}
}

func TestNeg(t *testing.T) {
	singles(func(a api.Rat) {
		check(t, ratio.Neg(a), new(big.Rat).Neg(fracOf(a)), a)
	})
}

func TestMid(t *testing.T) {
	pairs(func(a, b api.Rat) {
		sum := new(big.Rat).Add(fracOf(a), fracOf(b))
		check(t, ratio.Mid(a, b), sum.Mul(sum, big.NewRat(1, 2)), a, b)
	})
}

func TestFloor(t *testing.T) {
	singles(func(a api.Rat) {
		f := fracOf(a)
		// Div rounds so that the remainder is not below 0.
		checkInt(t, ratio.Floor(a), new(big.Int).Div(f.Num(), f.Denom()), a)
	})
	for _, c := range []struct{ n, d, want int64 }{{7, 2, 3}, {-7, 2, -4}, {7, -2, -4}, {-7, -2, 3}, {6, 2, 3}, {-6, 2, -3}, {6, -2, -3}, {5, 1, 5}, {-5, 1, -5}, {0, 9, 0}, {0, -9, 0}, {1, 9, 0}, {-1, 9, -1}, {-9, 9, -1}, {8, 9, 0}, {-8, 9, -1}, {-8, 0, -8}} {
		checkInt(t, ratio.Floor(raw(c.n, c.d)), big.NewInt(c.want), c)
	}
}

// rows calls f with rows of numbers, none and one among them.
func rows(f func(l []api.Rat)) {
	d := draw(4)
	edges := numbers()
	f(nil)
	f([]api.Rat{})
	for _, a := range edges {
		f([]api.Rat{a})
	}
	for i := range 600 {
		var l []api.Rat
		for range d.next(9) {
			l = append(l, edges[d.next(len(edges))], d.fraction(1+i%4))
		}
		f(l)
	}
}

func TestSum(t *testing.T) {
	rows(func(l []api.Rat) {
		want := new(big.Rat)
		for _, a := range l {
			want.Add(want, fracOf(a))
		}
		check(t, ratio.Sum(l...), want, l)
	})
	if got := ratio.Sum(); !same(got, raw(0, 1)) {
		t.Error(got)
	}
}

// TestSumLong: a sum whose steps come down to small denominators is quick, however many steps there are.
func TestSumLong(t *testing.T) {
	var l []api.Rat
	for n := int64(1); n <= 20000; n++ {
		l = append(l, raw(-1, n*(n+1)))
	}
	check(t, ratio.Sum(l...), big.NewRat(-20000, 20001))
}

func TestMax(t *testing.T) {
	rows(func(l []api.Rat) {
		if len(l) == 0 {
			return
		}
		want := fracOf(l[0])
		for _, a := range l {
			if fracOf(a).Cmp(want) > 0 {
				want = fracOf(a)
			}
		}
		check(t, ratio.Max(l[0], l[1:]...), want, l)
	})
	for i := range 5 {
		l := []api.Rat{raw(-9, 4), raw(5, -2), raw(-7, 3), raw(-10, 4), raw(-8, 3)}
		l[i] = raw(4, -2)
		check(t, ratio.Max(l[0], l[1:]...), big.NewRat(-2, 1), i)
	}
}
