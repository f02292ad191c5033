package poly_test

import (
	"math/big"
	"testing"

	"orrery/api"
	"orrery/poly"
)

// fracOf is the number that a counts as: a denominator of 0 is 1.
func fracOf(a api.Rat) *big.Rat {
	n, d := bigOf(a.Int), bigOf(a.D)
	if d.Sign() == 0 {
		d.SetInt64(1)
	}
	return new(big.Rat).SetFrac(n, d)
}

// ratOf is the inverse of fracOf: in lowest terms, with a denominator above 0.
func ratOf(f *big.Rat) api.Rat {
	return api.Rat{Int: intOf(f.Num()), D: intOf(f.Denom())}
}

// rawRat is n / d just as they stand.
func rawRat(n, d int64) api.Rat {
	return api.Rat{Int: intOf(big.NewInt(n)), D: intOf(big.NewInt(d))}
}

// at is the value of r at t.
func (r row) at(t *big.Rat) *big.Rat {
	out := new(big.Rat)
	for i := len(r) - 1; i >= 0; i-- {
		out.Mul(out, t)
		out.Add(out, new(big.Rat).SetInt(r[i]))
	}
	return out
}

// times are rational numbers at the edges, with every form that an argument may have.
func times() []api.Rat {
	out := []api.Rat{{}, {Int: api.Int{Neg: true}, D: api.Int{Neg: true, L: []uint32{0}}}, {Int: api.Int{L: []uint32{6, 0}}, D: api.Int{Neg: true, L: []uint32{4, 0, 0}}}}
	for _, n := range []int64{0, 1, -1, 2, -2, 3, -6, 1 << 40} {
		for _, d := range []int64{0, 1, -1, 2, -2, 6, -1 << 33} {
			out = append(out, rawRat(n, d))
		}
	}
	return append(out, api.Rat{Int: api.Int{L: []uint32{all, all, all}}, D: api.Int{Neg: true, L: []uint32{0, all}}})
}

// checkAt tells whether At and Sign answer for a at x what they are to answer.
func checkAt(t *testing.T, a api.Poly, x api.Rat) {
	t.Helper()
	want := rowOf(a).at(fracOf(x))
	got := poly.At(a, x)
	checkInt(t, got.Int, want.Num(), a, x)
	checkInt(t, got.D, want.Denom(), a, x)
	if sign := poly.Sign(a, x); sign != want.Sign() {
		t.Fatal(a, x, sign)
	}
}

func TestAt(t *testing.T) {
	d := draw(5)
	edge := times()
	singles(func(a api.Poly) {
		checkAt(t, a, edge[d.next(len(edge))])
		checkAt(t, a, api.Rat{Int: d.number(2), D: d.number(2)})
	})
	for _, a := range edges() {
		for _, x := range edge {
			checkAt(t, a, x)
		}
	}
	for _, c := range []struct {
		l    []int
		n, d int64
		want api.Rat
	}{
		{[]int{-2, 0, 1}, 3, 2, rawRat(1, 4)}, {[]int{-2, 0, 1}, -3, -2, rawRat(1, 4)}, {[]int{-2, 0, 1}, 2, 0, rawRat(2, 1)}, {[]int{-1, 2}, 1, 2, rawRat(0, 1)},
		{[]int{-1, 2}, -2, -4, rawRat(0, 1)}, {nil, 7, 3, rawRat(0, 1)}, {[]int{5}, 7, 3, rawRat(5, 1)}, {[]int{0, 4}, 1, -6, rawRat(-2, 3)},
	} {
		got := poly.At(poly.Of(c.l...), rawRat(c.n, c.d))
		if !sameInt(got.Int, c.want.Int) || !sameInt(got.D, c.want.D) {
			t.Error(c, got)
		}
	}
}

// over is d^k r(n / d), with k the degree of r, and d^k; for long numbers it is faster than at.
func (r row) over(n, d *big.Int) (value, power *big.Int) {
	value, power = new(big.Int), big.NewInt(1)
	for i := len(r) - 1; i >= 0; i-- {
		value.Mul(value, n)
		value.Add(value, new(big.Int).Mul(r[i], power))
		if i > 0 {
			power.Mul(power, d)
		}
	}
	return value, power
}

// TestAtLimits has the longest polynomial and numbers that the limits let be.
func TestAtLimits(t *testing.T) {
	d := draw(6)
	a, x := d.full(), api.Rat{Int: d.fullNumber(), D: d.fullNumber()}
	want := new(big.Rat).SetFrac(rowOf(a).over(bigOf(x.Int), bigOf(x.D)))
	got := poly.At(a, x)
	checkInt(t, got.Int, want.Num())
	checkInt(t, got.D, want.Denom())
	if sign := poly.Sign(a, x); sign != want.Sign() {
		t.Error(sign)
	}
}

// TestSignAtRoots has the roots themselves and their nearest neighbours.
func TestSignAtRoots(t *testing.T) {
	a := poly.Product(poly.Of(-1, 3), poly.Of(5, 2), poly.Of(0, 1), poly.Of(-7, 1), poly.Of(-7, 1))
	for _, c := range []struct {
		root              *big.Rat
		before, afterward int
	}{{big.NewRat(-5, 2), -1, 1}, {big.NewRat(0, 1), 1, -1}, {big.NewRat(1, 3), -1, 1}, {big.NewRat(7, 1), 1, 1}} {
		step := new(big.Rat).SetFrac(big.NewInt(1), new(big.Int).Lsh(big.NewInt(1), 200))
		low, high := new(big.Rat).Sub(c.root, step), new(big.Rat).Add(c.root, step)
		if poly.Sign(a, ratOf(low)) != c.before || poly.Sign(a, ratOf(c.root)) != 0 || poly.Sign(a, ratOf(high)) != c.afterward {
			t.Error(c)
		}
	}
}

func TestEnds(t *testing.T) {
	singles(func(a api.Poly) {
		p := rowOf(a)
		// The greatest coefficient bounds the roots: they are all less far from 0 than this.
		far := big.NewInt(2)
		for _, x := range p {
			far.Add(far, new(big.Int).Abs(x))
		}
		right := new(big.Rat).SetInt(far)
		left := new(big.Rat).Neg(right)
		minus, plus := poly.Ends(a)
		if minus != p.at(left).Sign() || plus != p.at(right).Sign() {
			t.Fatal(a, minus, plus)
		}
	})
	for _, c := range []struct {
		l           []int
		minus, plus int
	}{{nil, 0, 0}, {[]int{0}, 0, 0}, {[]int{4}, 1, 1}, {[]int{-4}, -1, -1}, {[]int{9, 1}, -1, 1}, {[]int{9, -1}, 1, -1}, {[]int{-9, 0, 1}, 1, 1}, {[]int{9, 0, -1}, -1, -1}, {[]int{-9, 5, 5, 1, 0}, -1, 1}} {
		if minus, plus := poly.Ends(poly.Of(c.l...)); minus != c.minus || plus != c.plus {
			t.Error(c, minus, plus)
		}
	}
}

// moved is d^k r(t + n / d) by the binomial theorem.
func (r row) moved(n, d *big.Int) row {
	out := zeros(len(r))
	power := func(a *big.Int, i int) *big.Int { return new(big.Int).Exp(a, big.NewInt(int64(i)), nil) }
	for i := range r {
		for k := range i + 1 {
			part := new(big.Int).Binomial(int64(i), int64(k))
			part.Mul(part, r[i])
			part.Mul(part, power(n, i-k))
			part.Mul(part, power(d, len(r)-1-i+k))
			out[k].Add(out[k], part)
		}
	}
	return out
}

// checkMove tells whether Move answers for a, n and d what it is to answer.
func checkMove(t *testing.T, a api.Poly, n, d api.Int) {
	t.Helper()
	got, err := poly.Move(a, n, d)
	if bigOf(d).Sign() == 0 {
		if err != api.ErrZero || len(got) != 0 {
			t.Fatal(a, n, d, got, err)
		}
		return
	}
	if err != api.OK {
		t.Fatal(a, n, d, err)
	}
	check(t, got, rowOf(a).moved(bigOf(n), bigOf(d)), a, n, d)
}

func TestMove(t *testing.T) {
	d := draw(7)
	var numbers []api.Int
	for _, n := range []int64{1, -1, 2, -2, 3, -6, 1 << 40} {
		numbers = append(numbers, intOf(big.NewInt(n)))
	}
	numbers = append(append(numbers, noughts()...), api.Int{Neg: true, L: []uint32{3, 0, 0}}, api.Int{L: []uint32{0, all}})
	for _, a := range edges() {
		for _, x := range numbers {
			for _, y := range numbers {
				checkMove(t, a, x, y)
			}
		}
	}
	singles(func(a api.Poly) {
		if len(a) < api.MaxTerms {
			checkMove(t, a, numbers[d.next(len(numbers))], numbers[d.next(len(numbers))])
			checkMove(t, a, d.number(2), d.number(2))
		}
	})
}

// TestMoveSigns: the sign of d is that which is passed, and the degree is that without the zeros on top.
func TestMoveSigns(t *testing.T) {
	for _, c := range []struct {
		l    []int64
		n, d int64
		want []int64
	}{
		{[]int64{0, 0, 1}, 1, 2, []int64{1, 4, 4}},
		{[]int64{0, 0, 1, 0, 0}, 1, 2, []int64{1, 4, 4}},
		{[]int64{0, 1}, 1, 2, []int64{1, 2}},
		{[]int64{0, 1}, -1, -2, []int64{-1, -2}},
		{[]int64{0, 1}, 1, -2, []int64{1, -2}},
		{[]int64{0, 0, 1}, -1, -2, []int64{1, 4, 4}},
		{[]int64{0, 1}, 2, 4, []int64{2, 4}},
		{[]int64{5}, 1, -2, []int64{5}},
		{[]int64{1, 2, 3}, 0, 1, []int64{1, 2, 3}},
		{nil, 1, 2, nil},
		{[]int64{0, 0}, 1, 2, nil},
	} {
		got, err := poly.Move(raw(c.l...), intOf(big.NewInt(c.n)), intOf(big.NewInt(c.d)))
		if err != api.OK || !same(got, raw(c.want...)) {
			t.Error(c, got, err)
		}
	}
}

// TestMoveZero: ErrZero comes whatever is moved, in whatever form the 0 is.
func TestMoveZero(t *testing.T) {
	for _, a := range edges() {
		for _, zero := range noughts() {
			if got, err := poly.Move(a, intOf(big.NewInt(3)), zero); err != api.ErrZero || len(got) != 0 {
				t.Error(a, zero, got, err)
			}
		}
	}
}

// TestMoveLimits has the longest polynomial and numbers that the limits let be; the value at some times stands for all the coefficients.
func TestMoveLimits(t *testing.T) {
	d := draw(8)
	a, n, by := d.full(), d.fullNumber(), d.fullNumber()
	got, err := poly.Move(a, n, by)
	if err != api.OK || len(got) != len(a) {
		t.Fatal(err, len(got))
	}
	before, after := rowOf(a), rowOf(got)
	for x := range int64(4) {
		at := big.NewInt(x - 1)
		step := new(big.Int).Mul(at, bigOf(by))
		want, _ := before.over(step.Add(step, bigOf(n)), bigOf(by))
		if value, _ := after.over(at, big.NewInt(1)); value.Cmp(want) != 0 {
			t.Error("a wrong value at", at)
		}
	}
}
