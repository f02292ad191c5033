package whole

import (
	"math/big"
	"testing"

	"orrery/api"
)

// bigOf is the number in the form of an arithmetic that is not the program's.
func bigOf(a api.Int) *big.Int {
	out := new(big.Int)
	for i := len(a.L) - 1; i >= 0; i-- {
		out.Lsh(out, 32)
		out.Or(out, big.NewInt(int64(a.L[i])))
	}
	return out
}

// TestForesee: a turn of long numbers of about the same size is what the steps of Euclid make of them, and takes nearly a limb off them.
func TestForesee(t *testing.T) {
	a, b := Pow(Of(1000003), 60), Pow(Of(999983), 60)
	turns, limbs := 0, len(a.L)
	for len(b.L) > 2 {
		turn := foresee(windows(a.L, b.L))
		if turn.still() {
			t.Fatal(a, b, "no step is foreseen")
		}
		c, d := turn.turned(a.L, b.L)
		x, y := bigOf(a), bigOf(b)
		gotC, gotD := bigOf(api.Int{L: c}), bigOf(api.Int{L: d})
		for y.Cmp(gotD) > 0 {
			x, y = y, new(big.Int).Rem(x, y)
		}
		if x.Cmp(gotC) != 0 || y.Cmp(gotD) != 0 {
			t.Fatal(a, b, turn)
		}
		a, b = api.Int{L: c}, api.Int{L: d}
		turns++
	}
	t.Log(turns, "turns for", limbs, "limbs")
	if turns > limbs+limbs/4 {
		t.Error("too few steps are foreseen")
	}
}
