package pgcd

import "testing"

// odd tells whether the odd number n has no divisor but 1 and n.
func odd(n uint64) bool {
	for d := uint64(3); d*d <= n; d += 2 {
		if n%d == 0 {
			return false
		}
	}
	return n > 1
}

func TestPrime(t *testing.T) {
	for n := uint64(3); n < 20000; n += 2 {
		if prime(n) != odd(n) {
			t.Error(n)
		}
	}
	// These pass the test with some of the bases.
	for _, n := range []uint64{2047, 3277, 1373653, 1530787, 25326001, 161304001, 1157839381} {
		if prime(n) {
			t.Error(n)
		}
	}
}

// TestBefore: no prime is left out, and the row of them ends.
func TestBefore(t *testing.T) {
	p := uint64(first)
	for range 50 {
		want := p - 2
		for !odd(want) {
			want -= 2
		}
		if p = before(p); p != want {
			t.Fatal(p, want)
		}
	}
	for p, want := range map[uint64]uint64{13: 11, 11: 7, 7: 5, 5: 3, 3: 1} {
		if got := before(p); got != want {
			t.Error(p, got)
		}
	}
}
