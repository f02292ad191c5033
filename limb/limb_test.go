package limb_test

import (
	"fmt"
	"math"
	"math/big"
	"slices"
	"testing"

	"orrery/api"
	"orrery/limb"
)

const all = math.MaxUint32

// bigOf is the number in the form of an arithmetic that is not the program's.
func bigOf(a []uint32) *big.Int {
	out := new(big.Int)
	for i := len(a) - 1; i >= 0; i-- {
		out.Lsh(out, 32)
		out.Or(out, big.NewInt(int64(a[i])))
	}
	return out
}

// check tells whether got is the number want, in the form of a result.
func check(t *testing.T, got []uint32, want *big.Int, what ...any) {
	t.Helper()
	if len(got) > 0 && got[len(got)-1] == 0 {
		t.Fatal("zero limbs on top:", got, fmt.Sprint(what...))
	}
	if bigOf(got).Cmp(want) != 0 {
		t.Fatal("got", bigOf(got), "want", want, fmt.Sprint(what...))
	}
}

// draw gives limbs from a fixed row, those at the bounds more often than others.
type draw uint64

func (d *draw) next(below int) int {
	*d = *d*6364136223846793005 + 1442695040888963407
	return int(uint64(*d) >> 33 % uint64(below))
}

func (d *draw) limb() uint32 {
	switch d.next(6) {
	case 0:
		return 0
	case 1:
		return all
	case 2:
		return 1 << 31
	case 3:
		return uint32(d.next(3))
	}
	return uint32(d.next(1<<16)<<16 | d.next(1<<16))
}

// list is a list of up to size limbs, often with zero limbs on top.
func (d *draw) list(size int) []uint32 {
	out := make([]uint32, d.next(size+1), size+4)
	for i := range out {
		out[i] = d.limb()
	}
	for range d.next(4) {
		out = append(out, 0)
	}
	return out
}

// numbers are those at the edges, each one bare and with zero limbs on top.
func numbers() [][]uint32 {
	bare := [][]uint32{nil, {}, {1}, {2}, {7}, {all - 1}, {all}, {0, 1}, {1, 1}, {all, all}, {0, 1 << 31}, {all, all >> 1}, {0, 0, 1}, {5, 0, 1}, {0, 0, 1 << 31}, {all, 0, all}, {all, all, all}, {0, all, 0, 1}, {0, 0, 1 << 31, 1<<31 - 1}, {all, all, all, all, all}}
	var out [][]uint32
	for _, a := range bare {
		out = append(out, a, append(slices.Clone(a), 0), append(slices.Clone(a), 0, 0, 0))
	}
	return out
}

// pairs calls f with pairs at the edges and with drawn ones.
func pairs(f func(a, b []uint32)) {
	for _, a := range numbers() {
		for _, b := range numbers() {
			f(a, b)
		}
	}
	d := draw(1)
	for i := range 6000 {
		f(d.list(1+i%12), d.list(1+i%7))
	}
	for range 60 {
		f(d.list(150), d.list(80))
	}
}

func TestNorm(t *testing.T) {
	pairs(func(a, _ []uint32) {
		check(t, limb.Norm(a), bigOf(a), a)
	})
	if got := limb.Norm([]uint32{5, 0, 7, 0, 0}); !slices.Equal(got, []uint32{5, 0, 7}) {
		t.Error(got)
	}
}

func TestCmp(t *testing.T) {
	pairs(func(a, b []uint32) {
		if got, want := limb.Cmp(a, b), bigOf(a).Cmp(bigOf(b)); got != want {
			t.Fatal(a, b, got)
		}
		if limb.Cmp(a, append(limb.Norm(a), 0)) != 0 {
			t.Fatal(a)
		}
	})
}

func TestAdd(t *testing.T) {
	pairs(func(a, b []uint32) {
		check(t, limb.Add(a, b), new(big.Int).Add(bigOf(a), bigOf(b)), a, b)
	})
	if got := limb.Add([]uint32{all, all, all}, []uint32{1, 0}); !slices.Equal(got, []uint32{0, 0, 0, 1}) {
		t.Error(got)
	}
}

func TestSub(t *testing.T) {
	pairs(func(a, b []uint32) {
		got, ok := limb.Sub(a, b)
		want := new(big.Int).Sub(bigOf(a), bigOf(b))
		if ok != (want.Sign() >= 0) {
			t.Fatal(a, b, ok)
		}
		if !ok {
			want.SetInt64(0)
		}
		check(t, got, want, a, b)
	})
	if got, ok := limb.Sub(nil, []uint32{1}); ok || len(got) != 0 {
		t.Error(got, ok)
	}
	if got, ok := limb.Sub([]uint32{0, 0, 0, 1}, []uint32{1, 0, 0, 0, 0}); !ok || !slices.Equal(got, []uint32{all, all, all}) {
		t.Error(got, ok)
	}
}

func TestMul(t *testing.T) {
	pairs(func(a, b []uint32) {
		check(t, limb.Mul(a, b), new(big.Int).Mul(bigOf(a), bigOf(b)), a, b)
	})
}

func TestSum(t *testing.T) {
	if got := limb.Sum(); len(got) != 0 {
		t.Error(got)
	}
	if got := limb.Sum(nil, []uint32{0, 0}, nil); len(got) != 0 {
		t.Error(got)
	}
	d := draw(2)
	for i := range 2000 {
		var l [][]uint32
		want := new(big.Int)
		for range i % 11 {
			a := d.list(5)
			l = append(l, a)
			want.Add(want, bigOf(a))
		}
		check(t, limb.Sum(l...), want, l)
	}
}

// TestSumGrows has a sum that is longer than each of its arguments, with a limb on top that is above 1.
func TestSumGrows(t *testing.T) {
	l := make([][]uint32, 70000)
	for i := range l {
		l[i] = []uint32{all, all}
	}
	want := new(big.Int).Mul(bigOf([]uint32{all, all}), big.NewInt(int64(len(l))))
	check(t, limb.Sum(l...), want)
}

func TestDivMod(t *testing.T) {
	pairs(func(a, b []uint32) {
		q, r, err := limb.DivMod(a, b)
		if bigOf(b).Sign() == 0 {
			if err != api.ErrZero || len(q) != 0 || len(r) != 0 {
				t.Fatal(a, b, q, r, err)
			}
			return
		}
		if err != api.OK {
			t.Fatal(a, b, err)
		}
		wantQ, wantR := new(big.Int).QuoRem(bigOf(a), bigOf(b), new(big.Int))
		check(t, q, wantQ, a, b)
		check(t, r, wantR, a, b)
	})
	if q, r, err := limb.DivMod([]uint32{7}, []uint32{2}); !slices.Equal(q, []uint32{3}) || !slices.Equal(r, []uint32{1}) || err != api.OK {
		t.Error(q, r, err)
	}
}

// TestDivModGuess has the divisions in which a limb of the quotient is easily guessed too great.
func TestDivModGuess(t *testing.T) {
	edge := []uint32{0, 1, 2, 1<<31 - 1, 1 << 31, 1<<31 + 1, all - 1, all}
	d := draw(3)
	pick := func(n int) []uint32 {
		out := make([]uint32, n)
		for i := range out {
			out[i] = edge[d.next(len(edge))]
		}
		return out
	}
	for i := range 30000 {
		a, b := pick(2+i%5), pick(2+i%3)
		q, r, err := limb.DivMod(a, b)
		if bigOf(b).Sign() == 0 {
			continue
		}
		wantQ, wantR := new(big.Int).QuoRem(bigOf(a), bigOf(b), new(big.Int))
		if err != api.OK {
			t.Fatal(a, b, err)
		}
		check(t, q, wantQ, a, b)
		check(t, r, wantR, a, b)
	}
}

// TestDivModZero: ErrZero comes whatever a is, and nothing beside it.
func TestDivModZero(t *testing.T) {
	for _, a := range numbers() {
		for _, b := range [][]uint32{nil, {}, {0}, {0, 0, 0}} {
			if q, r, err := limb.DivMod(a, b); err != api.ErrZero || len(q) != 0 || len(r) != 0 {
				t.Error(a, b, q, r, err)
			}
		}
	}
}

func TestBits(t *testing.T) {
	pairs(func(a, _ []uint32) {
		if got, want := limb.Bits(a), bigOf(a).BitLen(); got != want {
			t.Fatal(a, got, want)
		}
	})
	for n := range 200 {
		if got := limb.Bits(limb.Shl([]uint32{1}, n)); got != n+1 {
			t.Fatal(n, got)
		}
	}
}

// shifts are numbers of digits, with the number that each of them counts as.
var shifts = []struct{ n, as int }{{0, 0}, {1, 1}, {31, 31}, {32, 32}, {33, 33}, {63, 63}, {64, 64}, {65, 65}, {95, 95}, {96, 96}, {97, 97}, {1000, 1000}, {65535, 65535}, {65536, 65536}, {65537, 65536}, {65568, 65536}, {1 << 40, 65536}, {math.MaxInt, 65536}, {-1, 0}, {-32, 0}, {-65537, 0}, {math.MinInt, 0}}

func TestShl(t *testing.T) {
	for _, a := range numbers() {
		for _, s := range shifts {
			check(t, limb.Shl(a, s.n), new(big.Int).Lsh(bigOf(a), uint(s.as)), a, s)
		}
	}
}

func TestShr(t *testing.T) {
	long := limb.Shl([]uint32{all, 5, 1 << 31}, 65534)
	for _, a := range append(numbers(), long, append(limb.Norm(long), 0, 0)) {
		for _, s := range shifts {
			check(t, limb.Shr(a, s.n), new(big.Int).Rsh(bigOf(a), uint(s.as)), a, s)
		}
	}
}

func TestShiftsDrawn(t *testing.T) {
	d := draw(4)
	for range 6000 {
		a, n := d.list(8), d.next(300)
		check(t, limb.Shl(a, n), new(big.Int).Lsh(bigOf(a), uint(n)), a, n)
		check(t, limb.Shr(a, n), new(big.Int).Rsh(bigOf(a), uint(n)), a, n)
	}
}
