package digits_test

import (
	"math"
	"math/big"
	"regexp"
	"slices"
	"strings"
	"testing"

	"orrery/api"
	"orrery/digits"
)

const all = math.MaxUint32

// bigOf is the number in the form of an arithmetic that is not the program's.
func bigOf(a api.Int) *big.Int {
	out := new(big.Int)
	for i := len(a.L) - 1; i >= 0; i-- {
		out.Lsh(out, 32)
		out.Or(out, big.NewInt(int64(a.L[i])))
	}
	if a.Neg {
		out.Neg(out)
	}
	return out
}

// intOf is the inverse of bigOf.
func intOf(n *big.Int) api.Int {
	out := api.Int{Neg: n.Sign() < 0}
	rest, limb := new(big.Int).Abs(n), new(big.Int)
	for rest.Sign() > 0 {
		out.L = append(out.L, uint32(limb.And(rest, big.NewInt(all)).Uint64()))
		rest.Rsh(rest, 32)
	}
	return out
}

// loose is a with zero limbs on top.
func loose(a api.Int, zeros int) api.Int {
	return api.Int{Neg: a.Neg, L: append(slices.Clone(a.L), make([]uint32, zeros)...)}
}

// draw gives numbers from a fixed row, limbs at the bounds more often than others.
type draw uint64

func (d *draw) next(below int) int {
	*d = *d*6364136223846793005 + 1442695040888963407
	return int(uint64(*d) >> 33 % uint64(below))
}

func (d *draw) limb() uint32 {
	switch d.next(6) {
	case 0:
		return 0
	case 1:
		return all
	case 2:
		return uint32(d.next(3))
	}
	return uint32(d.next(1<<16)<<16 | d.next(1<<16))
}

// number has up to size limbs, and often zero limbs on top of them.
func (d *draw) number(size int) api.Int {
	out := api.Int{Neg: d.next(2) == 1}
	for range d.next(size + 1) {
		out.L = append(out.L, d.limb())
	}
	return loose(out, max(0, d.next(5)-2))
}

// numbers are those at the edges of limbs and of lengths in digits, above and below 0, each one bare and with zero limbs on top.
func numbers() []api.Int {
	var sizes []*big.Int
	for _, n := range []int64{0, 1, 2, 7, 9, 42, all - 1, all} {
		sizes = append(sizes, big.NewInt(n))
	}
	for _, base := range []int64{2, 10} {
		for n := range int64(616) {
			edge := new(big.Int).Exp(big.NewInt(base), big.NewInt(n), nil)
			for d := range int64(3) {
				sizes = append(sizes, new(big.Int).Add(edge, big.NewInt(d-1)))
			}
		}
	}
	sizes = append(sizes, bigOf(api.Int{L: slices.Repeat([]uint32{all}, api.MaxLimbs)}))
	var out []api.Int
	for _, n := range sizes {
		for _, neg := range []bool{false, true} {
			a := api.Int{Neg: neg, L: intOf(n).L}
			out = append(out, a, loose(a, 1), loose(a, 3))
		}
	}
	d := draw(1)
	for i := range 3000 {
		out = append(out, d.number(1+i%9))
	}
	for range 200 {
		out = append(out, d.number(api.MaxLimbs))
	}
	return out
}

func TestText(t *testing.T) {
	for _, a := range numbers() {
		if got, want := digits.Text(a), bigOf(a).String(); got != want {
			t.Fatal(a, got, want)
		}
	}
	for _, c := range []struct {
		a    api.Int
		want string
	}{
		{api.Int{}, "0"},
		{api.Int{L: []uint32{}}, "0"},
		{api.Int{Neg: true}, "0"},
		{api.Int{Neg: true, L: []uint32{0, 0}}, "0"},
		{api.Int{L: []uint32{7}}, "7"},
		{api.Int{Neg: true, L: []uint32{7, 0}}, "-7"},
		{api.Int{L: []uint32{1000000000}}, "1000000000"},
		{api.Int{L: []uint32{0, 1}}, "4294967296"},
		{api.Int{Neg: true, L: []uint32{1, 1, 0}}, "-4294967297"},
	} {
		if got := digits.Text(c.a); got != c.want {
			t.Error(c.a, got)
		}
	}
}

// right says what Parse is to tell of s.
func right(s string) bool {
	return regexp.MustCompile(`\A-?[0-9]+\z`).MatchString(s) && len(strings.TrimPrefix(s, "-")) <= 400
}

// checkParse tells whether Parse answers for s what it is to answer.
func checkParse(t *testing.T, s string) {
	t.Helper()
	got, err := digits.Parse(s)
	if !right(s) {
		if err != api.ErrText || got.Neg || len(got.L) != 0 {
			t.Fatalf("%q: %v %v", s, got, err)
		}
		return
	}
	if n := len(got.L); err != api.OK || n > 0 && got.L[n-1] == 0 || n == 0 && got.Neg {
		t.Fatalf("%q: %v %v", s, got, err)
	}
	want, _ := new(big.Int).SetString(s, 10)
	if bigOf(got).Cmp(want) != 0 {
		t.Fatalf("%q: got %v", s, bigOf(got))
	}
}

// TestParseText: each one is the inverse of the other.
func TestParseText(t *testing.T) {
	for _, a := range numbers() {
		s := digits.Text(a)
		checkParse(t, s)
		if got, err := digits.Parse(s); right(s) && (err != api.OK || digits.Text(got) != s) {
			t.Fatal(s, got, err)
		}
	}
}

func TestParse(t *testing.T) {
	for _, s := range []string{"0", "-0", "00", "-00", "7", "-7", "-007", "007", "0000000000", "-0000000000000000000", "000000000000000000001", "-000000000123456789", "999999999", "1000000000", "-1000000001", "18446744073709551615", "18446744073709551616", "-9223372036854775808"} {
		if !right(s) {
			t.Error(s)
		}
		checkParse(t, s)
	}
	if got, err := digits.Parse("-007"); err != api.OK || !got.Neg || !slices.Equal(got.L, []uint32{7}) {
		t.Error(got, err)
	}
}

// TestParseLength: leading zeros count as digits, the `-` does not.
func TestParseLength(t *testing.T) {
	for size := range api.MaxDigits + 30 {
		for _, digit := range []string{"0", "1", "9"} {
			s := strings.Repeat(digit, size)
			checkParse(t, s)
			checkParse(t, "-"+s)
			checkParse(t, "0"+s)
			checkParse(t, "-0"+s)
			checkParse(t, s+"7")
		}
	}
	for _, sign := range []string{"", "-"} {
		for _, digit := range []string{"0", "4"} {
			longest := sign + strings.Repeat(digit, 400)
			if _, err := digits.Parse(longest); err != api.OK {
				t.Error(longest, err)
			}
			if got, err := digits.Parse(longest + digit); err != api.ErrText || got.Neg || len(got.L) != 0 {
				t.Error(longest+digit, got, err)
			}
		}
	}
	for _, size := range []int{1000, 1 << 20} {
		checkParse(t, strings.Repeat("5", size))
		checkParse(t, strings.Repeat("-", size))
	}
}

func TestParseWrong(t *testing.T) {
	for _, s := range []string{"", "-", "--", "--1", "+1", "+", "-+1", "+-1", "1-", "1-1", "-1-", " ", " 1", "1 ", "- 1", "1 2", "1\n", "\n1", "\t1", "1\x00", "\x00", "1_0", "1,000", "1.0", ".5", "1/2", "1/1", "0x1", "0b1", "1e5", "a", "12a4", "NaN", "Inf", "\u0661", "\uff11", "\u22121", "1\u0661", "\xff", "1\xb1", "-\xad", "½"} {
		if right(s) {
			t.Errorf("%q", s)
		}
		checkParse(t, s)
	}
}

// TestParseBytes: every byte at every place of short and of long texts.
func TestParseBytes(t *testing.T) {
	for _, s := range []string{"5", "-5", "123", "-123", "123456789012345678901"} {
		for i := range len(s) + 1 {
			for c := range 256 {
				checkParse(t, s[:i]+string([]byte{byte(c)})+s[i:])
				if i < len(s) {
					checkParse(t, s[:i]+string([]byte{byte(c)})+s[i+1:])
				}
			}
		}
	}
}

func TestFraction(t *testing.T) {
	d := draw(7)
	tops, unders := numbers()[:100], numbers()[:100]
	for range 500 {
		tops, unders = append(tops, d.number(5)), append(unders, d.number(3))
	}
	for _, a := range tops {
		for range 20 {
			b := unders[d.next(len(unders))]
			want := bigOf(a).String()
			if bigOf(b).Cmp(big.NewInt(1)) != 0 {
				want += "/" + bigOf(b).String()
			}
			if got := digits.Fraction(api.Rat{Int: a, D: b}); got != want {
				t.Fatal(a, b, got, want)
			}
		}
	}
}

// TestFractionForms: the texts are those of the two numbers, also where they are not normal; only a denominator of 1 is left out.
func TestFractionForms(t *testing.T) {
	number := func(neg bool, l ...uint32) api.Int { return api.Int{Neg: neg, L: l} }
	for _, c := range []struct {
		n, d api.Int
		want string
	}{
		{number(false, 1), number(false, 2), "1/2"},
		{number(true, 1), number(false, 2), "-1/2"},
		{number(true, 3, 0), number(false, 2, 0, 0), "-3/2"},
		{number(false, 5), number(false, 1), "5"},
		{number(true, 5, 0), number(false, 1, 0), "-5"},
		{number(false), number(false, 1), "0"},
		{number(true), number(false, 1), "0"},
		{number(true, 0, 0), number(false, 1, 0, 0), "0"},
		{number(false, 7), number(false, 1, 1), "7/4294967297"},
		{number(false, 0, 1), number(false, 0, 0, 1), "4294967296/18446744073709551616"},
		{number(false, 6), number(false, 4), "6/4"},
		{number(false, 3), number(false, 3), "3/3"},
		{number(false, 3), number(true, 1), "3/-1"},
		{number(false, 3), number(false), "3/0"},
	} {
		if got := digits.Fraction(api.Rat{Int: c.n, D: c.d}); got != c.want {
			t.Error(c.n, c.d, got, "want", c.want)
		}
	}
}
