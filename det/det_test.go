package det_test

import (
	"math"
	"slices"
	"testing"

	"orrery/api"
	"orrery/det"
)

func checkDet(t *testing.T, rows [][]api.Poly) {
	t.Helper()
	want := wantDet(rows)
	if got, err := det.Det(rows...); err != api.OK || !same(got, want) {
		t.Error(rows, got, err, want)
	}
}

// checkMinors holds Minor against a list of the elements that are left, for each row and column.
func checkMinors(t *testing.T, rows [][]api.Poly) {
	t.Helper()
	for i := range rows {
		for k := range rows {
			var want [][]api.Poly
			for n, row := range rows {
				var left []api.Poly
				for m, p := range row {
					if m != k {
						left = append(left, listOf(p).poly())
					}
				}
				if n != i {
					want = append(want, left)
				}
			}
			if got, err := det.Minor(i, k, rows...); err != api.OK || !sameRows(got, want) {
				t.Error(rows, i, k, got, err, want)
			}
		}
	}
}

// numbers is a row of constants.
func numbers(l ...int64) []api.Poly {
	var out []api.Poly
	for _, n := range l {
		out = append(out, listOf(raw(n)).poly())
	}
	return out
}

func TestExamples(t *testing.T) {
	for _, s := range []struct {
		rows [][]api.Poly
		want api.Poly
	}{
		{[][]api.Poly{numbers(1, 2), numbers(3, 4)}, raw(-2)},
		{nil, raw(1)},
		{[][]api.Poly{}, raw(1)},
		{[][]api.Poly{numbers(-7)}, raw(-7)},
		{[][]api.Poly{{raw(0, 3)}}, raw(0, 3)},
		{[][]api.Poly{{nil}}, nil},
		{[][]api.Poly{numbers(2, 0, 0), numbers(0, 3, 0), numbers(0, 0, 5)}, raw(30)},
		{[][]api.Poly{numbers(1, 2, 3), numbers(4, 5, 6), numbers(7, 8, 9)}, nil},
		{[][]api.Poly{{raw(0, 1), raw(1)}, {raw(1), raw(0, 1)}}, raw(-1, 0, 1)},
		{[][]api.Poly{{raw(1, 1), raw(0, 2)}, {raw(2, 2), raw(0, 4)}}, nil},
		{[][]api.Poly{numbers(1, 1, 1, 1), numbers(1, 2, 4, 8), numbers(1, 3, 9, 27), numbers(1, 4, 16, 64)}, raw(12)},
	} {
		if got, err := det.Det(s.rows...); err != api.OK || !same(got, s.want) {
			t.Error(s.rows, got, err, s.want)
		}
	}
	got, err := det.Minor(0, 2, numbers(1, 2, 3), numbers(4, 5, 6), numbers(7, 8, 9))
	if err != api.OK || !sameRows(got, [][]api.Poly{numbers(4, 5), numbers(7, 8)}) {
		t.Error(got, err)
	}
	if got, err := det.Minor(0, 0, numbers(6)); err != api.OK || len(got) != 0 {
		t.Error(got, err)
	}
}

// TestOrders has a 1 in each row and column, and 0 elsewhere: the determinant is the sign of the order.
func TestOrders(t *testing.T) {
	for n := range 5 {
		orders(n, func(order []int, sign int64) {
			rows := make([][]api.Poly, n)
			for i, k := range order {
				rows[i] = make([]api.Poly, n)
				rows[i][k] = raw(0, 1)
			}
			want := append(make(api.Poly, n), raw(sign)...)
			if got, err := det.Det(rows...); err != api.OK || !same(got, want) {
				t.Error(order, got, err)
			}
		})
	}
}

func TestDrawn(t *testing.T) {
	var d draw = 13
	for n := range 5 {
		for i := range 150 {
			rows := rows(n, func() api.Poly { return d.few(1 + i%4) })
			checkDet(t, rows)
			checkMinors(t, rows)
		}
	}
}

// TestDependent: where two rows are one, or a row is a sum of multiples of two others, the determinant is 0.
func TestDependent(t *testing.T) {
	var d draw = 5
	for i := range 100 {
		rows := rows(4, func() api.Poly { return d.few(3) })
		to, from, other := i%4, (i+1)%4, (i+3)%4
		var sum []api.Poly
		for k := range rows {
			once := listOf(rows[from][k]).times(listOf(raw(0, 2)))
			sum = append(sum, once.plus(listOf(rows[other][k]), -3).poly())
		}
		for _, row := range [][]api.Poly{sum, rows[from], rows[other], make([]api.Poly, 4)} {
			rows[to] = row
			if got, err := det.Det(rows...); err != api.OK || len(got) != 0 {
				t.Error(rows, got, err)
			}
		}
	}
}

func TestRow(t *testing.T) {
	if got := det.Row(); len(got) != 0 {
		t.Error(got)
	}
	var d draw = 99
	for n := range 9 {
		var l, want []api.Poly
		for range n {
			p := append(d.few(4), raw(0, 0)...)
			l, want = append(l, p), append(want, listOf(p).poly())
		}
		if got := det.Row(l...); !sameRow(got, want) {
			t.Error(l, got)
		}
	}
	rows := [][]api.Poly{det.Row(raw(1), raw(2)), det.Row(raw(3), raw(4))}
	if got, err := det.Det(rows...); err != api.OK || !same(got, raw(-2)) {
		t.Error(got, err)
	}
}

// shapes calls f with rows of each count and of each length up to 5.
func shapes(f func(rows [][]api.Poly, square bool)) {
	var extend func(rows [][]api.Poly, left int)
	extend = func(rows [][]api.Poly, left int) {
		if left == 0 {
			square := len(rows) <= 4
			for _, row := range rows {
				square = square && len(row) == len(rows)
			}
			f(rows, square)
			return
		}
		for n := range 6 {
			extend(append(slices.Clone(rows), numbers(7, -1, 2, 3, 5)[:n]), left-1)
		}
	}
	for n := range 6 {
		extend(nil, n)
	}
}

// TestWrongRows: ErrArg for more than 4 rows, or for a row that is too short or too long.
func TestWrongRows(t *testing.T) {
	shapes(func(rows [][]api.Poly, square bool) {
		got, err := det.Det(rows...)
		if square != (err == api.OK) || !square && (err != api.ErrArg || got != nil) {
			t.Error(rows, got, err)
		}
		minor, err := det.Minor(0, 0, rows...)
		if square = square && len(rows) > 0; square != (err == api.OK) || !square && (err != api.ErrArg || minor != nil) {
			t.Error(rows, minor, err)
		}
	})
	many := rows(300, func() api.Poly { return raw(1) })
	if got, err := det.Det(many...); err != api.ErrArg || got != nil {
		t.Error(got, err)
	}
	if got, err := det.Minor(0, 0, many...); err != api.ErrArg || got != nil {
		t.Error(got, err)
	}
}

// TestWrongPlaces: ErrArg for a row or a column that there is not.
func TestWrongPlaces(t *testing.T) {
	for n := range 5 {
		rows := rows(n, func() api.Poly { return raw(1, 2) })
		places := []int{math.MinInt, -n - 1, -n, -1, 0, 1, 2, 3, 4, 5, math.MaxInt}
		for _, i := range places {
			for _, k := range places {
				got, err := det.Minor(i, k, rows...)
				there := 0 <= i && i < n && 0 <= k && k < n
				if there != (err == api.OK) || !there && (err != api.ErrArg || got != nil) {
					t.Error(n, i, k, got, err)
				}
			}
		}
	}
}
