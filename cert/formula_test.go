package cert_test

import (
	"math/big"
	"slices"

	"orrery/api"
)

// rows is a normal curve in the other arithmetic.
type rows struct {
	x, y, d row
}

func rowsOf(c api.Curve) rows {
	n := pathOf(c).curve()
	return rows{rowOf(n.X, one(1)), rowOf(n.Y, one(1)), rowOf(api.Poly{n.D}, one(1))}
}

func wantRight(a, b rows) row {
	return b.x.times(a.d).minus(a.x.times(b.d))
}

func wantAbove(a, b rows) row {
	return b.y.times(a.d).minus(a.y.times(b.d))
}

// orders calls f with each order of 0 to n - 1, and with its sign.
func orders(n int, f func(order []int, sign int64)) {
	var extend func(order []int, sign int64)
	extend = func(order []int, sign int64) {
		if len(order) == n {
			f(order, sign)
			return
		}
		for k := range n {
			if slices.Contains(order, k) {
				continue
			}
			turned := sign
			for _, before := range order {
				if before > k {
					turned = -turned
				}
			}
			extend(append(slices.Clone(order), k), turned)
		}
	}
	extend(nil, 1)
}

// wantDet is the determinant: the sum over all orders of the columns.
func wantDet(l ...[]row) row {
	var out row
	orders(len(l), func(order []int, sign int64) {
		product := row{big.NewRat(1, 1)}
		for i, k := range order {
			product = product.times(l[i][k])
		}
		out = out.plus(product, sign)
	})
	return out
}

func wantOrient(a, b, c rows) row {
	var l [][]row
	for _, p := range []rows{a, b, c} {
		l = append(l, []row{p.x, p.y, p.d})
	}
	return wantDet(l...)
}

func wantInCircle(a, b, c, d rows) row {
	var l [][]row
	for _, p := range []rows{a, b, c, d} {
		l = append(l, []row{p.x.times(p.d), p.y.times(p.d), p.x.times(p.x).plus(p.y.times(p.y), 1), p.d.times(p.d)})
	}
	return wantDet(l...)
}

func wantFarther(a, b, c, d rows) row {
	near := wantRight(a, b).squared().plus(wantAbove(a, b).squared(), 1)
	far := wantRight(d, c).squared().plus(wantAbove(d, c).squared(), 1)
	return far.times(a.d.times(b.d).squared()).minus(near.times(c.d.times(d.d).squared()))
}

// wantPoly is the polynomial of a certificate of this kind.
func wantPoly(kind int, p ...api.Point) row {
	var l []rows
	for _, q := range p {
		l = append(l, rowsOf(q.Curve))
	}
	switch kind {
	case 1:
		return orElse(wantRight(l[0], l[1]), wantAbove(l[0], l[1]))
	case 2:
		return orElse(wantAbove(l[1], l[0]), wantRight(l[1], l[0]))
	case 3:
		return wantOrient(l[0], l[1], l[2])
	case 4:
		return wantInCircle(l[0], l[1], l[2], l[3])
	}
	return wantFarther(l[0], l[1], l[2], l[3])
}

// orElse is p, or q if p is 0.
func orElse(p, q row) row {
	if len(p) == 0 {
		return q
	}
	return p
}
