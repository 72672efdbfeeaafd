package value_test

import (
	"math"
	"math/big"
	"testing"

	"pentode/api"
	"pentode/value"
)

func TestP1_4IntAndRatio(t *testing.T) {
	for n, want := range map[int64]string{0: "0", 1: "1", -1: "-1", 4700: "4700", math.MaxInt64: "9223372036854775807", math.MinInt64: "-9223372036854775808"} {
		if got := text(value.Int(n)); got != want {
			t.Errorf("Int(%d) = %s", n, got)
		}
	}
	for _, c := range []struct {
		a, b int64
		want string
		e    api.Errno
	}{
		{6, -8, "-3/4", api.OK}, {6, 8, "3/4", api.OK}, {-6, -8, "3/4", api.OK}, {-6, 8, "-3/4", api.OK}, {6, 3, "2", api.OK}, {0, 5, "0", api.OK}, {0, -5, "0", api.OK}, {7, 1, "7", api.OK}, {1, -1, "-1", api.OK},
		{5, 0, "0", api.ErrZero}, {0, 0, "0", api.ErrZero}, {math.MinInt64, 0, "0", api.ErrZero},
		{math.MinInt64, -1, "9223372036854775808", api.OK}, {math.MinInt64, math.MinInt64, "1", api.OK}, {1, math.MinInt64, "-1/9223372036854775808", api.OK}, {math.MaxInt64, math.MinInt64, "-9223372036854775807/9223372036854775808", api.OK}, {math.MinInt64, 6, "-4611686018427387904/3", api.OK},
	} {
		if x, e := value.Ratio(c.a, c.b); e != c.e || text(x) != c.want {
			t.Errorf("Ratio(%d, %d) = %s, %d, want %s, %d", c.a, c.b, text(x), e, c.want, c.e)
		}
	}
}

func TestP1_4Arithmetic(t *testing.T) {
	for _, c := range []struct{ x, y, sum, difference, product, quotient string }{
		{"1/3", "1/6", "1/2", "1/6", "1/18", "2"},
		{"1/2", "1/2", "1", "0", "1/4", "1"},
		{"-1/2", "1/2", "0", "-1", "-1/4", "-1"},
		{"2/3", "9/4", "35/12", "-19/12", "3/2", "8/27"},
		{"0", "-7/3", "-7/3", "7/3", "0", "0"},
		{"5", "-3", "2", "8", "-15", "-5/3"},
		{"18446744073709551615", "1", "18446744073709551616", "18446744073709551614", "18446744073709551615", "18446744073709551615"},
		{"18446744073709551616", "-1", "18446744073709551615", "18446744073709551617", "-18446744073709551616", "-18446744073709551616"},
		{"1/18446744073709551616", "-1/18446744073709551616", "0", "1/9223372036854775808", "-1/340282366920938463463374607431768211456", "-1"},
		{"5/12", "7/30", "13/20", "11/60", "7/72", "25/14"},
	} {
		x, y := parse(t, c.x), parse(t, c.y)
		q, e := value.Div(x, y)
		if text(value.Add(x, y)) != c.sum || text(value.Sub(x, y)) != c.difference || text(value.Mul(x, y)) != c.product || text(q) != c.quotient || e != api.OK {
			t.Errorf("%s and %s: %s, %s, %s, %s, %d", c.x, c.y, text(value.Add(x, y)), text(value.Sub(x, y)), text(value.Mul(x, y)), text(q), e)
		}
	}
	for _, s := range edges() {
		if q, e := value.Div(parse(t, s), value.Int(0)); e != api.ErrZero || text(q) != "0" {
			t.Errorf("Div(%s, 0) = %s, %d", s, text(q), e)
		}
	}
	var zero value.Num
	if text(zero) != "0" || value.Show(zero) != "0" || value.Cmp(zero, value.Int(0)) != 0 || text(value.Add(zero, value.Int(5))) != "5" {
		t.Error("the zero value is not 0")
	}
}

func TestP1_4Signs(t *testing.T) {
	for _, c := range []struct {
		x, negative, size string
		sign              int
	}{
		{"0", "0", "0", 0}, {"5", "-5", "5", 1}, {"-5", "5", "5", -1}, {"-7/3", "7/3", "7/3", -1}, {"1/18446744073709551616", "-1/18446744073709551616", "1/18446744073709551616", 1},
	} {
		x := parse(t, c.x)
		if text(value.Neg(x)) != c.negative || text(value.Abs(x)) != c.size || value.Sign(x) != c.sign || value.Sign(value.Neg(x)) != -c.sign {
			t.Errorf("%s: Neg %s, Abs %s, Sign %d", c.x, text(value.Neg(x)), text(value.Abs(x)), value.Sign(x))
		}
	}
}

func TestP1_4Order(t *testing.T) {
	for _, c := range []struct {
		x, y string
		sign int
	}{
		{"1/3", "1/2", -1}, {"-1/3", "-1/2", 1}, {"-1/3", "1/2", -1}, {"0", "0", 0}, {"0", "1/99", -1}, {"0", "-1/99", 1}, {"2/3", "2/3", 0}, {"-2/3", "-2/3", 0}, {"7", "8", -1}, {"-7", "-8", 1},
		{"18446744073709551616", "18446744073709551615", 1}, {"18446744073709551615/18446744073709551616", "18446744073709551614/18446744073709551615", 1}, {"1", "18446744073709551615/18446744073709551616", 1},
		{"340282366920938463463374607431768211456", "5", 1}, {"-340282366920938463463374607431768211456", "5", -1}, {"1/340282366920938463463374607431768211456", "1/5", -1},
	} {
		x, y := parse(t, c.x), parse(t, c.y)
		low, high := c.x, c.y
		if c.sign > 0 {
			low, high = high, low
		}
		if value.Cmp(x, y) != c.sign || value.Cmp(y, x) != -c.sign {
			t.Errorf("Cmp(%s, %s) = %d", c.x, c.y, value.Cmp(x, y))
		}
		if text(value.Min(x, y)) != low || text(value.Min(y, x)) != low || text(value.Max(x, y)) != high || text(value.Max(y, x)) != high {
			t.Errorf("Min, Max of %s and %s: %s, %s", c.x, c.y, text(value.Min(x, y)), text(value.Max(x, y)))
		}
	}
}

func TestP1_4Pow(t *testing.T) {
	for _, c := range []struct {
		x    string
		n    int
		want string
		e    api.Errno
	}{
		{"2/3", -2, "9/4", api.OK}, {"2/3", 2, "4/9", api.OK}, {"2/3", 0, "1", api.OK}, {"2/3", 1, "2/3", api.OK}, {"2/3", -1, "3/2", api.OK}, {"-2", 3, "-8", api.OK}, {"-2", 4, "16", api.OK}, {"-2", -3, "-1/8", api.OK}, {"-1/2", -4, "16", api.OK}, {"-1/2", -1, "-2", api.OK},
		{"0", 0, "1", api.OK}, {"0", 1, "0", api.OK}, {"0", 64, "0", api.OK}, {"0", -1, "0", api.ErrZero}, {"0", -64, "0", api.ErrZero},
		{"2", 64, "18446744073709551616", api.OK}, {"2", -64, "1/18446744073709551616", api.OK}, {"-1", 63, "-1", api.OK}, {"-1", -64, "1", api.OK},
		{"2", 65, "0", api.ErrRange}, {"2", -65, "0", api.ErrRange}, {"0", -65, "0", api.ErrRange}, {"0", 65, "0", api.ErrRange}, {"1", math.MaxInt, "0", api.ErrRange}, {"1", math.MinInt, "0", api.ErrRange}, {"0", math.MinInt, "0", api.ErrRange},
	} {
		if x, e := value.Pow(parse(t, c.x), c.n); e != c.e || text(x) != c.want {
			t.Errorf("Pow(%s, %d) = %s, %d, want %s, %d", c.x, c.n, text(x), e, c.want, c.e)
		}
	}
	x := parse(t, "-18446744073709551617/10")
	product, inverse := value.Int(1), value.Int(1)
	for n := 0; n <= 64; n++ {
		p, e := value.Pow(x, n)
		q, f := value.Pow(x, -n)
		if e != api.OK || f != api.OK || value.Cmp(p, product) != 0 || value.Cmp(q, inverse) != 0 {
			t.Fatalf("Pow(%s, %d) = %s, %d; %s, %d", text(x), n, text(p), e, text(q), f)
		}
		product = value.Mul(product, x)
		inverse, _ = value.Div(inverse, x)
	}
}

// against holds the arithmetic of two numbers against the library's.
func against(t *testing.T, r, s *big.Rat) {
	t.Helper()
	x, y := numOf(t, r), numOf(t, s)
	for i, c := range []struct {
		got  value.Num
		want *big.Rat
	}{
		{x, r}, {value.Add(x, y), new(big.Rat).Add(r, s)}, {value.Sub(x, y), new(big.Rat).Sub(r, s)}, {value.Mul(x, y), new(big.Rat).Mul(r, s)}, {value.Neg(x), new(big.Rat).Neg(r)}, {value.Abs(x), new(big.Rat).Abs(r)},
	} {
		if text(c.got) != c.want.RatString() {
			t.Fatalf("%d, for %s and %s: %s, want %s", i, r.RatString(), s.RatString(), text(c.got), c.want.RatString())
		}
	}
	if value.Cmp(x, y) != r.Cmp(s) || value.Sign(x) != r.Sign() {
		t.Fatalf("Cmp of %s and %s = %d, Sign = %d", r.RatString(), s.RatString(), value.Cmp(x, y), value.Sign(x))
	}
	q, e := value.Div(x, y)
	if s.Sign() == 0 {
		if e != api.ErrZero {
			t.Fatalf("Div(%s, 0) = %d", r.RatString(), e)
		}
		return
	}
	if want := new(big.Rat).Quo(r, s); e != api.OK || text(q) != want.RatString() {
		t.Fatalf("Div(%s, %s) = %s, %d, want %s", r.RatString(), s.RatString(), text(q), e, want.RatString())
	}
}

func TestP1_4Many(t *testing.T) {
	for _, a := range edges() {
		for _, b := range edges() {
			against(t, rat(t, a), rat(t, b))
		}
	}
	g := newNumbers()
	for i := range 3000 {
		bits := 10 + i%700
		against(t, g.rat(bits), g.rat(bits))
		near := g.rat(bits)
		against(t, near, new(big.Rat).Add(near, big.NewRat(1, 1+int64(g.below(1000000)))))
	}
}

func TestP1_4Large(t *testing.T) {
	g := newNumbers()
	for _, bits := range []int{2000, 3500, 6000, 11000, 23000} {
		for range 6 {
			r, s := g.rat(bits), g.rat(bits)
			against(t, r, s)
			against(t, r, g.rat(bits/7))
			against(t, new(big.Rat).SetInt(g.integer(bits)), new(big.Rat).SetFrac(g.integer(bits/2), big.NewInt(3)))
		}
	}
}

func TestP1_4Sparse(t *testing.T) {
	// Few bits far from each other: long rows of words 0, or all ones, and rests of 0.
	power := func(n, d int64) *big.Rat {
		z := new(big.Int).Lsh(big.NewInt(1), uint(n))
		return new(big.Rat).SetInt(z.Add(z, big.NewInt(d)))
	}
	for _, n := range []int64{128, 3000, 12800, 25600} {
		for _, d := range []int64{-1, 0, 1} {
			x, y := power(2*n, d), power(n, -1)
			against(t, x, y)
			against(t, power(n, 1), y)
			against(t, new(big.Rat).Quo(x, power(n-64, d)), y)
			against(t, new(big.Rat).Mul(y, y), y)
			against(t, new(big.Rat).Mul(y, power(n/3, 3)), power(n/3, 3))
		}
	}
}

func TestP1_4Corners(t *testing.T) {
	// Words at which the guess of a word of a quotient is farthest off.
	words := []uint64{0, 1, 1<<63 - 1, 1 << 63, 1<<63 + 1, 1<<64 - 2, 1<<64 - 1}
	g := newNumbers()
	made := func(n int) *big.Int {
		z := big.NewInt(1)
		for range n {
			z.Lsh(z, 64)
			z.Or(z, new(big.Int).SetUint64(words[g.below(len(words))]))
		}
		return z.SetBit(z, 64*n, 0)
	}
	for range 4000 {
		top, bottom := made(3+g.below(4)), made(2+g.below(3))
		bottom.SetBit(bottom, 0, 1)
		r := new(big.Rat).SetFrac(top, bottom)
		against(t, new(big.Rat).SetInt(top), new(big.Rat).SetInt(bottom))
		floor := new(big.Int).Quo(r.Num(), r.Denom())
		if got := text(value.Floor(numOf(t, r))); got != floor.String() {
			t.Fatalf("Floor(%s) = %s, want %s", r.RatString(), got, floor)
		}
	}
}

func TestP1_4VeryLarge(t *testing.T) {
	// Quotients undo products, with the long numbers that powers of powers are.
	x := parse(t, "12345678901234567890123456789")
	for range 2 {
		x, _ = value.Pow(x, 40)
	}
	y := value.Add(value.Mul(x, x), value.Int(1))
	p := value.Mul(value.Sub(x, value.Int(1)), y)
	q, e := value.Div(p, y)
	if e != api.OK || value.Cmp(q, value.Sub(x, value.Int(1))) != 0 {
		t.Errorf("Div of a product with %d digits", value.Digits(p))
	}
	want, _ := new(big.Int).SetString("12345678901234567890123456789", 10)
	want.Exp(want, big.NewInt(1600), nil)
	if text(x) != want.String() || value.Digits(x) != len(want.String()) {
		t.Errorf("Text of a power with %d digits", value.Digits(x))
	}
}
