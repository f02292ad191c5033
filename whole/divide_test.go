package whole_test

import (
	"math/big"
	"testing"

	"orrery/api"
	"orrery/whole"
)

// zeros are all forms of 0.
func zeros() []api.Int {
	return []api.Int{{}, {Neg: true}, {L: []uint32{}}, {L: []uint32{0}}, {Neg: true, L: []uint32{0, 0}}}
}

func TestDivMod(t *testing.T) {
	pairs(func(a, b api.Int) {
		q, r, err := whole.DivMod(a, b)
		if bigOf(b).Sign() == 0 {
			if err != api.ErrZero || q.Neg || r.Neg || len(q.L)+len(r.L) != 0 {
				t.Fatal(a, b, q, r, err)
			}
			return
		}
		wantQ, wantR := new(big.Int).DivMod(bigOf(a), bigOf(b), new(big.Int))
		if err != api.OK {
			t.Fatal(a, b, err)
		}
		check(t, q, wantQ, a, b)
		check(t, r, wantR, a, b)
	})
}

func TestDivModSigns(t *testing.T) {
	for _, c := range []struct{ a, b, q, r int64 }{{7, 2, 3, 1}, {-7, 2, -4, 1}, {7, -2, -3, 1}, {-7, -2, 4, 1}, {6, -2, -3, 0}, {-6, 2, -3, 0}, {-6, -2, 3, 0}, {1, -5, 0, 1}, {-1, 5, -1, 4}, {-1, -5, 1, 4}, {0, -5, 0, 0}} {
		q, r, err := whole.DivMod(whole.Of(int(c.a)), whole.Of(int(c.b)))
		if err != api.OK {
			t.Error(c, err)
		}
		check(t, q, big.NewInt(c.q), c)
		check(t, r, big.NewInt(c.r), c)
	}
}

func TestExact(t *testing.T) {
	pairs(func(a, b api.Int) {
		got, err := whole.Exact(a, b)
		rest := new(big.Int)
		switch {
		case bigOf(b).Sign() == 0:
			if err != api.ErrZero || got.Neg || len(got.L) != 0 {
				t.Fatal(a, b, got, err)
			}
		case rest.Rem(bigOf(a), bigOf(b)).Sign() != 0:
			if err != api.ErrExact || got.Neg || len(got.L) != 0 {
				t.Fatal(a, b, got, err)
			}
		default:
			if err != api.OK {
				t.Fatal(a, b, err)
			}
			check(t, got, new(big.Int).Quo(bigOf(a), bigOf(b)), a, b)
		}
	})
}

// TestExactOfProducts has divisions of long numbers that come out even, and their neighbours, which do not.
func TestExactOfProducts(t *testing.T) {
	pairs(func(a, b api.Int) {
		if bigOf(b).Sign() == 0 {
			return
		}
		product := new(big.Int).Mul(bigOf(a), bigOf(b))
		got, err := whole.Exact(intOf(product), b)
		if err != api.OK {
			t.Fatal(a, b, err)
		}
		check(t, got, bigOf(a), a, b)
		if bigOf(b).CmpAbs(big.NewInt(1)) > 0 {
			next := intOf(product.Add(product, big.NewInt(1)))
			if got, err := whole.Exact(next, b); err != api.ErrExact || got.Neg || len(got.L) != 0 {
				t.Fatal(next, b, got, err)
			}
		}
	})
}

// TestDivisionByZero: ErrZero comes whatever is divided, in whatever form the 0 is.
func TestDivisionByZero(t *testing.T) {
	for _, a := range numbers() {
		for _, zero := range zeros() {
			if q, r, err := whole.DivMod(a, zero); err != api.ErrZero || q.Neg || r.Neg || len(q.L)+len(r.L) != 0 {
				t.Error(a, zero, q, r, err)
			}
			if q, err := whole.Exact(a, zero); err != api.ErrZero || q.Neg || len(q.L) != 0 {
				t.Error(a, zero, q, err)
			}
		}
	}
}
