package value_test

import (
	"math/big"
	"regexp"
	"strings"
	"testing"

	"pentode/api"
	"pentode/value"
)

func TestP1_1CheckAndParse(t *testing.T) {
	long, longer := strings.Repeat("7", 1000), strings.Repeat("7", 1001)
	round := "1" + strings.Repeat("0", 999)
	for _, c := range []struct {
		s string
		e api.Errno
	}{
		{"0", api.OK}, {"5", api.OK}, {"-5", api.OK}, {"10", api.OK}, {"-3/8", api.OK}, {"3/8", api.OK}, {"1/2", api.OK}, {"1/10", api.OK}, {"100/3", api.OK},
		// No rows of digits.
		{"", api.ErrForm}, {"-", api.ErrForm}, {"/", api.ErrForm}, {"-/2", api.ErrForm}, {"1/", api.ErrForm}, {"/2", api.ErrForm}, {"1//2", api.ErrForm},
		{"1/2/3", api.ErrForm}, {"1/2/", api.ErrForm}, {"+1", api.ErrForm}, {"--1", api.ErrForm}, {"1-", api.ErrForm}, {"1/-2", api.ErrForm}, {"1/+2", api.ErrForm},
		{" 1", api.ErrForm}, {"1 ", api.ErrForm}, {"1 /2", api.ErrForm}, {"1/ 2", api.ErrForm}, {"1\n", api.ErrForm}, {"1.5", api.ErrForm}, {"4k", api.ErrForm},
		{"1e3", api.ErrForm}, {"0x1", api.ErrForm}, {"1_0", api.ErrForm}, {"a", api.ErrForm}, {"/0", api.ErrForm}, {"1:", api.ErrForm}, {"\x00", api.ErrForm},
		{"\u0663", api.ErrForm}, {"1/\u0663", api.ErrForm}, {"\xff", api.ErrForm}, {"1\xff", api.ErrForm}, {"\u22121", api.ErrForm},
		// Zeros at the beginning.
		{"05", api.ErrForm}, {"00", api.ErrForm}, {"-05", api.ErrForm}, {"1/02", api.ErrForm}, {"01/2", api.ErrForm}, {"1/00", api.ErrForm},
		// 0 with a sign, or with a second row.
		{"-0", api.ErrForm}, {"0/3", api.ErrForm}, {"-0/3", api.ErrForm}, {"0/1", api.ErrForm},
		// A second row of 0 or 1.
		{"1/0", api.ErrForm}, {"3/1", api.ErrForm}, {"-3/1", api.ErrForm},
		// Common divisors.
		{"6/8", api.ErrForm}, {"-6/8", api.ErrForm}, {"2/2", api.ErrForm}, {"15/5", api.ErrForm}, {"5/15", api.ErrForm}, {"36893488147419103232/2", api.ErrForm},
		// The limit of digits, of each row.
		{long, api.OK}, {"-" + long, api.OK}, {"1/" + long, api.OK}, {long + "/2", api.OK}, {long + "/" + round, api.OK},
		{longer, api.ErrLong}, {"-" + longer, api.ErrLong}, {"1/" + longer, api.ErrLong}, {longer + "/2", api.ErrLong},
		// The limit comes before common divisors, and behind everything else.
		{longer + "/7", api.ErrLong}, {"7/" + longer, api.ErrLong}, {longer + "/" + longer, api.ErrLong}, {long + "/7", api.ErrForm},
		{"0" + longer, api.ErrForm}, {longer + "/", api.ErrForm}, {longer + "/1", api.ErrForm}, {longer + "/02", api.ErrForm}, {"0/" + longer, api.ErrForm}, {"x/" + longer, api.ErrForm}, {longer + "x", api.ErrForm},
	} {
		if e := value.Check(api.Val(c.s)); e != c.e {
			t.Errorf("Check(%.30q) = %d, want %d", c.s, e, c.e)
		}
		x, e := value.Parse(api.Val(c.s))
		if e != c.e {
			t.Errorf("Parse(%.30q) = %d, want %d", c.s, e, c.e)
		}
		if e == api.OK && text(x) != c.s {
			t.Errorf("Text of Parse(%.30q) = %.30q", c.s, text(x))
		}
		if e != api.OK && text(x) != "0" {
			t.Errorf("Parse(%.30q) gives %.30q with an error", c.s, text(x))
		}
	}
}

// checkWant is the error of Check by patterns and the library's numbers.
func checkWant(s string) api.Errno {
	if !regexp.MustCompile(`^-?(0|[1-9][0-9]*)(/(0|[1-9][0-9]*))?$`).MatchString(s) {
		return api.ErrForm
	}
	if regexp.MustCompile(`^(-0|0/|.*/[01]$)`).MatchString(s) {
		return api.ErrForm
	}
	rows := strings.Split(strings.TrimPrefix(s, "-"), "/")
	for _, r := range rows {
		if len(r) > 1000 {
			return api.ErrLong
		}
	}
	if r, _ := new(big.Rat).SetString(s); r.RatString() != s {
		return api.ErrForm
	}
	return api.OK
}

// scraps puts texts together that are often nearly valid.
func scraps(g *numbers, parts []string) string {
	s := ""
	for range 1 + g.below(5) {
		s += parts[g.below(len(parts))]
	}
	return s
}

func TestP1_1Texts(t *testing.T) {
	g := newNumbers()
	parts := []string{"-", "/", "0", "1", "2", "3", "6", "10", "24", "007", "81", "-", "/", ".", "k", " ", "18446744073709551616", "36893488147419103232"}
	for range 20000 {
		s := scraps(g, parts)
		want := checkWant(s)
		x, e := value.Parse(api.Val(s))
		if e != want || value.Check(api.Val(s)) != want || e == api.OK && text(x) != s {
			t.Fatalf("Parse(%q) = %s, %d, want %d", s, text(x), e, want)
		}
	}
}

func TestP1_1Digits(t *testing.T) {
	for s, want := range map[string]int{"0": 1, "5": 1, "-5": 1, "9": 1, "10": 2, "-10": 2, "99": 2, "100": 3, "1/2": 1, "1/10": 2, "-3/125": 3, "1000/3": 4, "-1/999": 3, "123/4567": 4, "4567/123": 4} {
		if got := value.Digits(parse(t, s)); got != want {
			t.Errorf("Digits(%s) = %d, want %d", s, got, want)
		}
	}
	// On both sides of each power of ten, and of two.
	for n := 1; n < 400; n++ {
		ten := parse(t, "1"+strings.Repeat("0", n))
		below := value.Sub(ten, value.Int(1))
		if value.Digits(ten) != n+1 || value.Digits(below) != n || value.Digits(value.Neg(below)) != n {
			t.Fatalf("Digits around 10^%d = %d, %d", n, value.Digits(below), value.Digits(ten))
		}
		if q, _ := value.Div(value.Int(1), ten); value.Digits(q) != n+1 {
			t.Fatalf("Digits of 10^-%d = %d", n, value.Digits(q))
		}
		two := new(big.Int).Lsh(big.NewInt(1), uint(n))
		if got, want := value.Digits(integerOf(t, two)), len(two.String()); got != want {
			t.Fatalf("Digits of 2^%d = %d, want %d", n, got, want)
		}
	}
}

func TestP1_1LongTexts(t *testing.T) {
	// Longer than a Val may be: Text and Digits have no limit.
	n := strings.Repeat("1234567890", 700)
	i, _ := new(big.Int).SetString(n, 10)
	x := integerOf(t, i)
	if text(x) != n || value.Digits(x) != 7000 {
		t.Errorf("Text of 7000 digits = %.30q.., Digits = %d", text(x), value.Digits(x))
	}
	if e := value.Check(value.Text(x)); e != api.ErrLong {
		t.Errorf("Check of 7000 digits = %d", e)
	}
	y, _ := value.Div(value.Int(-1), x)
	if text(y) != "-1/"+n || value.Digits(y) != 7000 {
		t.Errorf("Text = %.30q.., Digits = %d", text(y), value.Digits(y))
	}
}

func TestP1_2Read(t *testing.T) {
	for s, want := range map[string]string{
		"0": "0", "5": "5", "-5": "-5", "4700": "4700", "4.7k": "4700", "-4.7k": "-4700", "-100n": "-1/10000000",
		"007": "7", "7.0": "7", "0.007k": "7", "7.000": "7", "0007.700": "77/10", "-0": "0", "-0.0": "0", "00": "0", "0k": "0", "-0.000f": "0", "0.10": "1/10", "-0.5": "-1/2",
		"1f": "1/1000000000000000", "8p": "1/125000000000", "2n": "1/500000000", "6u": "3/500000", "5m": "1/200", "3k": "3000", "2.5M": "2500000", "3G": "3000000000", "1T": "1000000000000",
		"1000000T": "1000000000000000000", "0.001f": "1/1000000000000000000", "1/3": "1/3", "-2/7": "-2/7",
	} {
		if x, e := value.Read(s); e != api.OK || text(x) != want {
			t.Errorf("Read(%q) = %s, %d, want %s", s, text(x), e, want)
		}
	}
	for _, s := range []string{
		"", "-", "k", "-k", ".", ".5", "-.5", "1.", "1.k", "-1.", ".k", "2K", "2F", "2t", "2g", "2a", "2e", "1e3", "3 k", " 3", "3 ", "1kk", "1mk", "k1", "1k5", "1.5.2", "1..2", "--1", "+1", "1-", "1,5",
		"0x10", "1_0", "\u0663", "1\u00b5", "1\u03bc", "\xff", "1\xff", "1k\n", "1.\u0663", "1.-5", "\uff11",
	} {
		if x, e := value.Read(s); e != api.ErrForm || text(x) != "0" {
			t.Errorf("Read(%q) = %s, %d, want ErrForm", s, text(x), e)
		}
	}
}

func TestP1_2ReadWithSlash(t *testing.T) {
	long := strings.Repeat("7", 401)
	longer := strings.Repeat("7", 1001)
	for s, want := range map[string]api.Errno{
		"2/4": api.ErrForm, "1/3k": api.ErrForm, "1.5/2": api.ErrForm, "007/2": api.ErrForm, "/": api.ErrForm, "1/0": api.ErrForm, "4k/3": api.ErrForm, "-0/3": api.ErrForm, "1/3 ": api.ErrForm, "1/2/3": api.ErrForm,
		// The limits are those of Parse.
		long + "/2": api.OK, "1/" + long: api.OK, longer + "/2": api.ErrLong, "1/" + longer: api.ErrLong,
	} {
		x, e := value.Read(s)
		if e != want {
			t.Errorf("Read(%.20q) = %d, want %d", s, e, want)
		}
		if e == api.OK && text(x) != s || e != api.OK && text(x) != "0" {
			t.Errorf("Read(%.20q) gives %.20q", s, text(x))
		}
	}
}

func TestP1_2ReadLong(t *testing.T) {
	ones, zeros := strings.Repeat("1", 400), strings.Repeat("0", 399)
	for s, want := range map[string]api.Errno{
		ones: api.OK, "-" + ones + "T": api.OK, ones[1:] + ".1f": api.OK, "1." + ones[1:] + "k": api.OK, zeros + "1": api.OK, "1." + zeros: api.OK,
		ones + "1": api.ErrLong, ones + ".1": api.ErrLong, "1." + ones: api.ErrLong, "-" + ones + "1k": api.ErrLong,
		// Zeros make no difference for the number, but they are digits.
		zeros + "01": api.ErrLong, "1.0" + zeros: api.ErrLong,
		// The form comes first.
		ones + "1K": api.ErrForm, ones + "1.": api.ErrForm, "." + ones + "1": api.ErrForm, ones + "1.1.1": api.ErrForm,
	} {
		x, e := value.Read(s)
		if e != want || e != api.OK && text(x) != "0" {
			t.Errorf("Read(%.10q.. of %d bytes) = %.10s, %d, want %d", s, len(s), text(x), e, want)
		}
		if e == api.OK && ratOf(t, x).Cmp(engineering(t, s)) != 0 {
			t.Errorf("Read(%.10q.. of %d bytes) = %.30s", s, len(s), text(x))
		}
	}
}

// powers are the prefixes, as the chapter lists them.
var powers = map[string]int64{"f": -15, "p": -12, "n": -9, "u": -6, "m": -3, "k": 3, "M": 6, "G": 9, "T": 12}

// ten is ten to the power n.
func ten(n int64) *big.Rat {
	size := new(big.Int).Exp(big.NewInt(10), big.NewInt(max(n, -n)), nil)
	if n < 0 {
		return new(big.Rat).SetFrac(big.NewInt(1), size)
	}
	return new(big.Rat).SetInt(size)
}

// engineering is what an engineering text stands for.
func engineering(t testing.TB, s string) *big.Rat {
	t.Helper()
	if p, is := powers[s[len(s)-1:]]; is {
		return new(big.Rat).Mul(rat(t, s[:len(s)-1]), ten(p))
	}
	return rat(t, s)
}

func TestP1_2Texts(t *testing.T) {
	g := newNumbers()
	form := regexp.MustCompile(`^-?[0-9]+(\.[0-9]+)?[fpnumkMGT]?$`)
	parts := []string{"-", ".", "0", "1", "25", "007", "3", "999999999999999999999", "f", "p", "n", "u", "m", "k", "M", "G", "T", "K", " "}
	for range 20000 {
		s := scraps(g, parts)
		x, e := value.Read(s)
		switch {
		case !form.MatchString(s):
			if e != api.ErrForm || text(x) != "0" {
				t.Fatalf("Read(%q) = %s, %d, want ErrForm", s, text(x), e)
			}
		case e != api.OK || ratOf(t, x).Cmp(engineering(t, s)) != 0:
			t.Fatalf("Read(%q) = %s, %d", s, text(x), e)
		}
	}
}

func TestP1_3Show(t *testing.T) {
	for s, want := range map[string]string{
		"0": "0", "1": "1", "-1": "-1", "999": "999", "1000": "1k", "-1000": "-1k", "4700": "4.7k", "999999": "999.999k", "1000000": "1M", "1000000000": "1G", "1000000000000": "1T", "999999999999": "999.999999999G",
		"10": "10", "100": "100", "100000": "100k", "1500000": "1.5M",
		"1/2": "500m", "1/1000": "1m", "999/1000": "999m", "9999/10000": "999.9m", "1/1000000": "1u", "1/1000000000": "1n", "-1/10000000": "-100n", "1/1000000000000": "1p", "1/1000000000000000": "1f", "1/1024": "976.5625u", "3/2": "1.5", "-5/4": "-1.25",
		// Beyond the prefixes.
		"1000000000000000": "1000T", "1000000000000000000": "1000000T", "-1234567890123456789": "-1234567.890123456789T", "1/2000000000000000": "0.5f", "-1/1000000000000000000": "-0.001f", "1/1000000000000000000000000000": "0.000000000001f",
		// Twelve digits behind the point, and thirteen.
		"1000000000001/1000000000000": "1.000000000001", "10000000000001/10000000000000": "10000000000001/10000000000000", "1234567890123456789/1000000000000": "1234567890123456789/1000000000000",
		"1/10000000000000000000000000000": "1/10000000000000000000000000000", "1000000000000000000000001": "1000000000000.000000000001T", "10000000000000000000000000": "10000000000000T", "1/4096": "244.140625u", "1/16384": "61.03515625u",
		// No decimal number.
		"1/3": "1/3", "-2/7": "-2/7", "1000/3": "1000/3", "1/3000": "1/3000",
	} {
		if got := value.Show(parse(t, s)); got != want {
			t.Errorf("Show(%s) = %s, want %s", s, got, want)
		}
	}
}

func TestP1_3ShowLong(t *testing.T) {
	zeros := func(n int) string { return strings.Repeat("0", n) }
	nines := func(n int) string { return strings.Repeat("9", n) }
	for s, want := range map[string]string{
		"1" + zeros(411):             "1" + zeros(399) + "T", // 400 digits
		"1" + zeros(412):             "1" + zeros(412),       // 401 digits
		nines(412):                   nines(412),             // 400 before the point, 12 behind it
		nines(400) + zeros(12):       nines(400) + "T",
		nines(401) + zeros(12):       nines(401) + zeros(12),
		nines(388) + nines(12):       nines(388) + "." + nines(12) + "T",
		nines(389) + nines(12):       nines(389) + nines(12),
		nines(399) + "5" + zeros(11): nines(399) + ".5T",
		nines(400) + "5" + zeros(11): nines(400) + "5" + zeros(11),
	} {
		if got := value.Show(parse(t, s)); got != want {
			t.Errorf("Show(%.20s.. of %d digits) = %.20s.. of %d bytes, want %.20s.. of %d", s, len(s), got, len(got), want, len(want))
		}
		if got := value.Show(parse(t, "-"+s)); got != "-"+want {
			t.Errorf("Show(-%.20s.. of %d digits) = %.20s.. of %d bytes", s, len(s), got, len(got))
		}
	}
}

// showWant is the short form of a number, or its text, by its definition and with the library's numbers.
func showWant(r *big.Rat) string {
	if r.Sign() == 0 {
		return "0"
	}
	size := new(big.Rat).Abs(r)
	letter, power := "", int64(0)
	for l, p := range powers {
		unit := new(big.Rat).Mul(size, ten(-p))
		if unit.Cmp(ten(0)) >= 0 && unit.Cmp(ten(3)) < 0 {
			letter, power = l, p
		}
	}
	if size.Cmp(ten(-15)) < 0 {
		letter, power = "f", -15
	}
	if size.Cmp(ten(15)) >= 0 {
		letter, power = "T", 12
	}
	size.Mul(size, ten(-power))
	digits := size.FloatString(12)
	if exact, _ := new(big.Rat).SetString(digits); exact.Cmp(size) != 0 {
		return r.RatString()
	}
	digits = strings.TrimRight(strings.TrimRight(digits, "0"), ".")
	if size.IsInt() {
		digits = size.RatString()
	}
	if len(strings.ReplaceAll(digits, ".", "")) > 400 {
		return r.RatString()
	}
	if r.Sign() < 0 {
		digits = "-" + digits
	}
	return digits + letter
}

func TestP1_3ShowMany(t *testing.T) {
	g := newNumbers()
	for range 5000 {
		r := new(big.Rat).SetInt(g.integer(1 + g.below(60)))
		r.Mul(r, ten(int64(g.below(45)-30)))
		if g.below(2) == 0 {
			r.Neg(r)
		}
		if got, want := value.Show(numOf(t, r)), showWant(r); got != want {
			t.Fatalf("Show(%s) = %s, want %s", r.RatString(), got, want)
		}
	}
	// The bounds of the prefixes.
	for p := int64(-18); p <= 18; p++ {
		for _, d := range []int64{-1, 0, 1} {
			r := new(big.Rat).Mul(ten(-10), big.NewRat(d, 1))
			r.Mul(r.Add(r, ten(0)), ten(p))
			if got, want := value.Show(numOf(t, r)), showWant(r); got != want {
				t.Fatalf("Show(%s) = %s, want %s", r.RatString(), got, want)
			}
		}
	}
}
