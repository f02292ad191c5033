package ratio_test

import (
	"math/big"
	"regexp"
	"strings"
	"testing"

	"orrery/api"
	"orrery/ratio"
)

var form = regexp.MustCompile(`\A(-?)([0-9]+)(?:/([0-9]+))?\z`)

// decimal is the number with these digits; big.Rat would read leading zeros as another base.
func decimal(s string) *big.Int {
	out, _ := new(big.Int).SetString(s, 10)
	return out
}

// wanted is what Parse is to tell of s.
func wanted(s string) (*big.Rat, api.Errno) {
	part := form.FindStringSubmatch(s)
	if part == nil || len(part[2]) > 400 || len(part[3]) > 400 {
		return nil, api.ErrText
	}
	n, d := decimal(part[1]+part[2]), big.NewInt(1)
	if part[3] != "" {
		d = decimal(part[3])
	}
	if d.Sign() == 0 {
		return nil, api.ErrZero
	}
	return new(big.Rat).SetFrac(n, d), api.OK
}

// checkParse tells whether Parse answers for s what it is to answer.
func checkParse(t *testing.T, s string) {
	t.Helper()
	got, err := ratio.Parse(s)
	want, wantErr := wanted(s)
	if err != wantErr || err != api.OK && !none(got) {
		t.Fatalf("%q: %v %v, want %v", s, got, err, wantErr)
	}
	if err == api.OK {
		check(t, got, want, s)
	}
}

func TestParse(t *testing.T) {
	for _, c := range []struct {
		s    string
		n, d int64
	}{
		{"6/4", 3, 2}, {"-6/4", -3, 2}, {"0", 0, 1}, {"-0", 0, 1}, {"0/5", 0, 1}, {"-0/5", 0, 1}, {"00/005", 0, 1},
		{"7", 7, 1}, {"-007", -7, 1}, {"7/1", 7, 1}, {"7/7", 1, 1}, {"-14/007", -2, 1}, {"1/2", 1, 2}, {"12345678901/4294967296", 12345678901, 4294967296},
	} {
		if got, err := ratio.Parse(c.s); err != api.OK || !same(got, raw(c.n, c.d)) {
			t.Error(c, got, err)
		}
		checkParse(t, c.s)
	}
}

// TestParseWrong: a text that is none comes ahead of a denominator of 0.
func TestParseWrong(t *testing.T) {
	for _, s := range []string{
		"", "-", "--1", "+1", " 1", "1 ", "x", "1.5", "1e3", "0x1", "½", "1⁄2", "1\n",
		"/", "//", "/1", "1/", "-/1", "-/", "/-", "/-1", "1/-", "x/1", "1/x", "+1/2", "1/+2", "1 /2", "1/ 2", " 1/2", "1/2 ", "--1/2", "1//2",
		"1/2/3", "1/2/", "/1/2", "1/1/1", "1/0/1", "1/1/0", "1/0/0",
		"1/-2", "-1/-2", "1/-1", "1/--2", "0/-1",
		"/0", "x/0", "-/0", "+1/0", "1 /0", "1/-0", "0/-0", "1/0x", "1/0 ", "1/+0", "1/00/", "--1/0",
	} {
		if got, err := ratio.Parse(s); err != api.ErrText || !none(got) {
			t.Errorf("%q: %v %v", s, got, err)
		}
		checkParse(t, s)
	}
	for _, s := range []string{"1/0", "0/0", "-0/0", "-5/0", "7/00", "007/000", "1/" + strings.Repeat("0", 400)} {
		if got, err := ratio.Parse(s); err != api.ErrZero || !none(got) {
			t.Errorf("%q: %v %v", s, got, err)
		}
		checkParse(t, s)
	}
}

// TestParseLength: each of the two ints has up to MaxDigits digits.
func TestParseLength(t *testing.T) {
	for _, n := range []int{1, 9, 10, 399, 400, 401, 402, 800} {
		for _, d := range []int{0, 1, 399, 400, 401, 800} {
			for _, digit := range []string{"0", "6", "9"} {
				s := strings.Repeat(digit, n)
				if d > 0 {
					s += "/" + strings.Repeat(digit, d)
				}
				checkParse(t, s)
				checkParse(t, "-"+s)
			}
		}
	}
	for _, s := range []string{strings.Repeat("1", 401) + "/0", "1/" + strings.Repeat("0", 401), strings.Repeat("/", 1<<20), strings.Repeat("1/", 1<<18), strings.Repeat("1", 1<<20)} {
		if got, err := ratio.Parse(s); err != api.ErrText || !none(got) {
			t.Errorf("%.20q..: %v %v", s, got, err)
		}
	}
}

// TestParseBytes: every byte at every place.
func TestParseBytes(t *testing.T) {
	for _, s := range []string{"", "5", "-5", "60/84", "-60/84", "0/0", "123456789012/2"} {
		for i := range len(s) + 1 {
			for c := range 256 {
				checkParse(t, s[:i]+string([]byte{byte(c)})+s[i:])
				if i < len(s) {
					checkParse(t, s[:i]+string([]byte{byte(c)})+s[i+1:])
				}
			}
		}
	}
}

// TestParseShort: all texts of up to five of the bytes that matter.
func TestParseShort(t *testing.T) {
	texts := []string{""}
	for range 5 {
		var longer []string
		for _, s := range texts {
			for _, c := range []string{"-", "/", "0", "6", "+"} {
				longer = append(longer, s+c)
			}
		}
		for _, s := range longer {
			checkParse(t, s)
		}
		texts = longer
	}
}

// TestParseAll: the text of every number is read as this number.
func TestParseAll(t *testing.T) {
	d := draw(5)
	for i := range 2000 {
		a := fracOf(d.fraction(1 + i%9))
		checkParse(t, a.String())
		checkParse(t, a.RatString())
	}
}
