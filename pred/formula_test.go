package pred_test

import (
	"math/big"
	"slices"

	"orrery/api"
	"orrery/pred"
)

// rows is a normal curve in the other arithmetic.
type rows struct {
	x, y, d row
}

func rowsOf(c api.Curve) rows {
	n := pathOf(c).curve()
	return rows{rowOf(n.X, one(1)), rowOf(n.Y, one(1)), rowOf(api.Poly{n.D}, one(1))}
}

func wantRight(a, b rows) row {
	return b.x.times(a.d).minus(a.x.times(b.d))
}

func wantAbove(a, b rows) row {
	return b.y.times(a.d).minus(a.y.times(b.d))
}

// orders calls f with each order of 0 to n - 1, and with its sign.
func orders(n int, f func(order []int, sign int64)) {
	var extend func(order []int, sign int64)
	extend = func(order []int, sign int64) {
		if len(order) == n {
			f(order, sign)
			return
		}
		for k := range n {
			if slices.Contains(order, k) {
				continue
			}
			turned := sign
			for _, before := range order {
				if before > k {
					turned = -turned
				}
			}
			extend(append(slices.Clone(order), k), turned)
		}
	}
	extend(nil, 1)
}

// wantDet is the determinant: the sum over all orders of the columns.
func wantDet(l ...[]row) row {
	var out row
	orders(len(l), func(order []int, sign int64) {
		product := row{big.NewRat(1, 1)}
		for i, k := range order {
			product = product.times(l[i][k])
		}
		out = out.plus(product, sign)
	})
	return out
}

func wantOrient(a, b, c rows) row {
	var l [][]row
	for _, p := range []rows{a, b, c} {
		l = append(l, []row{p.x, p.y, p.d})
	}
	return wantDet(l...)
}

func wantInCircle(a, b, c, d rows) row {
	var l [][]row
	for _, p := range []rows{a, b, c, d} {
		l = append(l, []row{p.x.times(p.d), p.y.times(p.d), p.x.times(p.x).plus(p.y.times(p.y), 1), p.d.times(p.d)})
	}
	return wantDet(l...)
}

func wantFarther(a, b, c, d rows) row {
	near := wantRight(a, b).squared().plus(wantAbove(a, b).squared(), 1)
	far := wantRight(d, c).squared().plus(wantAbove(d, c).squared(), 1)
	return far.times(a.d.times(b.d).squared()).minus(near.times(c.d.times(d.d).squared()))
}

// polys calls every function that returns a polynomial.
func polys(a, b, c, d api.Curve) []api.Poly {
	return []api.Poly{pred.Right(a, b), pred.Above(a, b), pred.Orient(a, b, c), pred.InCircle(a, b, c, d), pred.Farther(a, b, c, d)}
}

// wantPolys are the polynomials that polys is to return.
func wantPolys(a, b, c, d api.Curve) []api.Poly {
	p, q, r, s := rowsOf(a), rowsOf(b), rowsOf(c), rowsOf(d)
	var out []api.Poly
	for _, w := range []row{wantRight(p, q), wantAbove(p, q), wantOrient(p, q, r), wantInCircle(p, q, r, s), wantFarther(p, q, r, s)} {
		out = append(out, w.poly())
	}
	return out
}

func samePolys(a, b []api.Poly) bool {
	return slices.EqualFunc(a, b, same)
}
