package germ_test

import (
	"math/big"
	"testing"

	"orrery/alg"
	"orrery/api"
	"orrery/germ"
	"orrery/isolate"
)

// counter counts roots by the sign changes in the chain of a polynomial and its derivative (Sturm's way).
type counter []row

func counterOf(r row) counter {
	out := counter{r}
	for last, next := r, r.derived(); len(next) > 0; {
		out = append(out, next)
		_, rest := last.divide(next)
		last, next = next, rest.reduced().scaled(big.NewRat(-1, 1))
	}
	return out
}

func (c counter) changes(t *big.Rat) int {
	n, last := 0, 0
	for _, r := range c {
		if s := r.at(t).Sign(); s != 0 {
			if s == -last {
				n++
			}
			last = s
		}
	}
	return n
}

// between is how many different roots are above lo and at most hi.
func (c counter) between(lo, hi *big.Rat) int {
	if hi.Cmp(lo) <= 0 {
		return 0
	}
	return c.changes(lo) - c.changes(hi)
}

// part is a part of the line, whose ends are no roots.
type part struct {
	lo, hi *big.Rat
}

// parts are, rising, parts with one root each, together all roots from lo to hi, which are none themselves.
func (c counter) parts(lo, hi *big.Rat) []part {
	switch c.between(lo, hi) {
	case 0:
		return nil
	case 1:
		return []part{{lo, hi}}
	}
	mid := half(lo, hi)
	for c[0].at(mid).Sign() == 0 {
		mid = half(lo, mid)
	}
	return append(c.parts(lo, mid), c.parts(mid, hi)...)
}

func half(x, y *big.Rat) *big.Rat {
	out := new(big.Rat).Add(x, y)
	return out.Mul(out, big.NewRat(1, 2))
}

// union is all roots of a polynomial together, a squarefree one, each in its own part of the line.
type union struct {
	all   row
	parts []part
}

func unionOf(r row) union {
	r = r.square()
	far := r.bound()
	return union{r, counterOf(r).parts(new(big.Rat).Neg(far), far)}
}

// place is which of the roots a is.
func (u union) place(t *testing.T, a api.Alg) int {
	t.Helper()
	// What a's polynomial and the union share has no roots but the common ones.
	both := counterOf(u.all.gcd(rowOf(a.P)))
	lo, hi := bigRat(a.Lo), bigRat(a.Hi)
	var out []int
	for i, p := range u.parts {
		low, high := p.lo, p.hi
		if low.Cmp(lo) < 0 {
			low = lo
		}
		if high.Cmp(hi) > 0 {
			high = hi
		}
		itself := lo.Cmp(hi) == 0 && p.lo.Cmp(lo) < 0 && lo.Cmp(p.hi) < 0 && both[0].at(lo).Sign() == 0
		if itself || both.between(low, high) == 1 {
			out = append(out, i)
		}
	}
	if len(out) != 1 {
		t.Fatal(a, "is no root", u, out)
	}
	return out[0]
}

// after is the sign of r just after the root of this index; r has no roots beside those of u.
func (u union) after(r row, i int) int {
	return r.at(u.parts[i].hi).Sign()
}

// turns are those roots at which the sign of r changes; r has no roots beside those of u.
func (u union) turns(r row) []int {
	var out []int
	for i, p := range u.parts {
		if r.at(p.lo).Sign() != r.at(p.hi).Sign() {
			out = append(out, i)
		}
	}
	return out
}

// least is the least index in l above i, and true; false if there is none.
func least(l []int, i int) (int, bool) {
	for _, k := range l {
		if k > i {
			return k, true
		}
	}
	return 0, false
}

// checkFound tells whether a and ok are the root that is wanted, if one is.
func (u union) checkFound(t *testing.T, a api.Alg, ok bool, want int, wanted bool) {
	t.Helper()
	if ok != wanted {
		t.Fatal(u, a, ok, want, wanted)
	}
	if !ok {
		checkNone(t, a)
		return
	}
	checkResult(t, a)
	if got := u.place(t, a); got != want {
		t.Fatal(u, a, got, want)
	}
}

// checkAll holds all functions against the union of p's, q's and r's roots, at every root of r.
func checkAll(t *testing.T, p, q, r row) {
	t.Helper()
	u := unionOf(p.times(q).times(r))
	inP, inQ := u.turns(p), u.turns(q)
	l := germ.Turns(polyOf(p))
	if len(l) != len(inP) {
		t.Fatal(p, l, inP)
	}
	for i, a := range l {
		u.checkFound(t, a, true, inP[i], true)
	}
	at, err := isolate.Roots(polyOf(r))
	if err != api.OK {
		t.Fatal(r, err)
	}
	for i, a := range at {
		if i%2 == 1 {
			a = alg.Refine(a, 70)
		}
		here := u.place(t, a)
		for _, s := range []row{p, q} {
			if got, want := germ.At(polyOf(s), a), u.after(s, here); got != want {
				t.Fatal(s, a, got, want)
			}
		}
		want, wanted := least(inP, here)
		got, ok := germ.Next(polyOf(p), a)
		u.checkFound(t, got, ok, want, wanted)
		if other, also := least(inQ, here); also && (!wanted || other < want) {
			want, wanted = other, true
		}
		got, ok = germ.First(a, polyOf(p), nil, polyOf(q))
		u.checkFound(t, got, ok, want, wanted)
	}
}

// TestUnion has polynomials of all kinds, multiple factors and shared ones among them.
func TestUnion(t *testing.T) {
	d := draw(12)
	for i := range 250 {
		p, q, r := d.powers(), d.few(1+i%6), d.few(2+i%5)
		switch i % 4 {
		case 0:
			// All of them have a factor in common.
			s := d.few(2 + i%3)
			p, q, r = p.times(s.power(1+i%3)), q.times(s), r.times(s)
		case 1:
			// The numbers are roots of both, multiple ones of one of them.
			p, q = p.times(r.power(2+i%2)), q.times(r)
		}
		checkAll(t, p, q, r)
	}
	checkAll(t, rowOf(d.long(6, 10)), rowOf(d.long(3, 12)), rowOf(d.long(5, 3)))
	s := rowOf(d.long(4, 2))
	checkAll(t, s.power(3).times(d.few(4)), s.power(2), s.times(rowOf(d.long(3, 1))))
}

// TestAfterDrawn has the sign at a time so near that no root is between.
func TestAfterDrawn(t *testing.T) {
	d := draw(8)
	for range 200 {
		at := big.NewRat(int64(d.next(99)-49), int64(1+d.next(9)))
		p := d.powers().times(linear(at).power(d.next(6)))
		c := counterOf(p.square())
		step := big.NewRat(1, 1)
		near := new(big.Rat).Add(at, step)
		for c.between(at, near) > 0 {
			near.Add(at, step.Mul(step, big.NewRat(1, 2)))
		}
		if got, want := germ.After(polyOf(p), ratOf(at)), p.at(near).Sign(); got != want {
			t.Fatal(p, at, got, want)
		}
		if got, want := germ.At(polyOf(p), alg.Of(ratOf(at))), p.at(near).Sign(); got != want {
			t.Fatal(p, at, got, want)
		}
	}
}
