package whole_test

import (
	"math/big"
	"testing"

	"orrery/api"
	"orrery/whole"
)

// gcdOf is the greatest common divisor by an arithmetic that is not the program's.
func gcdOf(l ...*big.Int) *big.Int {
	out := new(big.Int)
	for _, a := range l {
		out.GCD(nil, nil, out, new(big.Int).Abs(a))
	}
	return out
}

// checkGcd holds the program's divisor of both orders of two numbers against gcdOf.
func checkGcd(t *testing.T, a, b *big.Int) {
	t.Helper()
	check(t, whole.Gcd(intOf(a), intOf(b)), gcdOf(a, b), a, b)
	check(t, whole.Gcd(intOf(b), intOf(a)), gcdOf(a, b), b, a)
}

func TestGcd(t *testing.T) {
	pairs(func(a, b api.Int) {
		check(t, whole.Gcd(a, b), gcdOf(bigOf(a), bigOf(b)), a, b)
	})
	check(t, whole.Gcd(whole.Of(-12), whole.Of(18)), big.NewInt(6))
}

func TestGcdOfFew(t *testing.T) {
	check(t, whole.Gcd(), big.NewInt(0))
	check(t, whole.Gcd(zeros()...), big.NewInt(0))
	for _, a := range numbers() {
		check(t, whole.Gcd(a), new(big.Int).Abs(bigOf(a)), a)
		for _, zero := range zeros() {
			check(t, whole.Gcd(a, zero), new(big.Int).Abs(bigOf(a)), a)
			check(t, whole.Gcd(zero, a), new(big.Int).Abs(bigOf(a)), a)
		}
	}
}

func TestGcdOfMany(t *testing.T) {
	check(t, whole.Gcd(whole.Of(60), whole.Of(0), whole.Of(-84), whole.Of(90)), big.NewInt(6))
	check(t, whole.Gcd(whole.Of(6), whole.Of(10), whole.Of(15)), big.NewInt(1))
	d := draw(3)
	for range 2000 {
		common, l := d.number(6), d.row(5)
		var bigs []*big.Int
		for i := range l {
			l[i] = whole.Mul(l[i], common)
			bigs = append(bigs, bigOf(l[i]))
		}
		check(t, whole.Gcd(l...), gcdOf(bigs...), l)
	}
}

// TestGcdOfMultiples has a long divisor beside long factors.
func TestGcdOfMultiples(t *testing.T) {
	d := draw(4)
	for i := range 4000 {
		common, a, b := bigOf(d.number(1+i%7)), bigOf(d.number(1+i%11)), bigOf(d.number(1+i%5))
		checkGcd(t, a.Mul(a, common), b.Mul(b, common))
	}
	for range 20 {
		common, a, b := bigOf(d.number(200)), bigOf(d.number(300)), bigOf(d.number(300))
		checkGcd(t, a.Mul(a, common), b.Mul(b, common))
	}
}

// TestGcdOfFractions has the pairs of continued fractions whose quotients are drawn: all 1, short ones, and ones longer than a limb. So the steps of Euclid are all that there may be, and their number is foreseen or not at every size.
func TestGcdOfFractions(t *testing.T) {
	d := draw(5)
	for i := range 600 {
		a, b := bigOf(whole.Of(1+d.next(5))), big.NewInt(0)
		for range 40 + d.next(200) {
			quotient := big.NewInt(1)
			switch {
			case i%4 == 1:
				quotient.SetInt64(int64(1 + d.next(4)))
			case i%4 == 2 && d.next(20) == 0:
				quotient.SetUint64(1<<31 + uint64(d.limb()))
			case i%4 == 3 && d.next(10) == 0:
				quotient.Lsh(quotient, uint(d.next(130)))
			}
			a, b = quotient.Mul(quotient, a).Add(quotient, b), a
		}
		checkGcd(t, a, b)
	}
}

// TestGcdOfNeighbours has numbers that are equal on top, and numbers around the powers of 2.
func TestGcdOfNeighbours(t *testing.T) {
	d := draw(6)
	for n := range 260 {
		power := new(big.Int).Lsh(big.NewInt(1), uint(n))
		for i := range 6 {
			a, b := new(big.Int).Add(power, big.NewInt(int64(i-3))), new(big.Int).Sub(power, big.NewInt(int64(d.next(9))))
			checkGcd(t, a, b)
			checkGcd(t, a, new(big.Int).Rsh(b, uint(d.next(70))))
			checkGcd(t, new(big.Int).Mul(a, a), new(big.Int).Mul(a, b))
		}
	}
}
