package value_test

import (
	"math"
	"math/big"
	"testing"

	"pentode/api"
	"pentode/value"
)

func TestP1_6SpanOfAndTexts(t *testing.T) {
	for _, c := range []struct {
		lo, hi api.Val
		e      api.Errno
	}{
		{"1", "2", api.OK}, {"1", "1", api.OK}, {"-3/8", "0", api.OK}, {"0", "0", api.OK},
		{"2", "1", api.ErrRange}, {"0", "-1/9", api.ErrRange},
		{"x", "1", api.ErrForm}, {"1", "x", api.ErrForm}, {"x", "x", api.ErrForm}, {"", "", api.ErrForm}, {"2/4", "1", api.ErrForm}, {"2", "-0", api.ErrForm},
		// That of Lo before that of Hi.
		{api.Val(longRow()), "x", api.ErrLong}, {"x", api.Val(longRow()), api.ErrForm}, {"1", api.Val(longRow()), api.ErrLong},
	} {
		a, e := value.SpanOf(api.Range{Lo: c.lo, Hi: c.hi})
		if e != c.e {
			t.Errorf("SpanOf(%.10s, %.10s) = %d, want %d", c.lo, c.hi, e, c.e)
		}
		if e == api.OK && value.SpanText(a) != (api.Range{Lo: c.lo, Hi: c.hi}) || e != api.OK && spanText(a) != "0 to 0" {
			t.Errorf("SpanOf(%.10s, %.10s) gives %.30s", c.lo, c.hi, spanText(a))
		}
	}
	if got := value.SpanText(span(t, "3", "-1/2")); got != (api.Range{Lo: "-1/2", Hi: "3"}) {
		t.Errorf("SpanText of 3 to -1/2 = %v", got)
	}
	if got := value.SpanText(value.Span{}); got != (api.Range{Lo: "0", Hi: "0"}) {
		t.Errorf("SpanText of the zero span = %v", got)
	}
	for _, s := range edges() {
		if got := spanText(value.Point(parse(t, s))); got != s+" to "+s {
			t.Errorf("Point(%s) = %s", s, got)
		}
	}
}

// longRow has one digit more than a Val may have.
func longRow() string {
	digits := make([]byte, api.MaxDigits+1)
	for i := range digits {
		digits[i] = '7'
	}
	return string(digits)
}

func TestP1_6Arithmetic(t *testing.T) {
	for _, c := range []struct{ aLo, aHi, bLo, bHi, sum, difference, product, quotient string }{
		{"-1", "2", "-3", "5", "-4 to 7", "-6 to 5", "-6 to 10", ""},
		{"1", "2", "3", "4", "4 to 6", "-3 to -1", "3 to 8", "1/4 to 2/3"},
		{"-2", "-1", "3", "4", "1 to 3", "-6 to -4", "-8 to -3", "-2/3 to -1/4"},
		{"-2", "-1", "-4", "-3", "-6 to -4", "1 to 3", "3 to 8", "1/4 to 2/3"},
		{"-1", "2", "-4", "-3", "-5 to -1", "2 to 6", "-8 to 4", "-2/3 to 1/3"},
		{"-1", "2", "1/2", "4", "-1/2 to 6", "-5 to 3/2", "-4 to 8", "-2 to 4"},
		{"0", "2", "-3", "0", "-3 to 2", "0 to 5", "-6 to 0", ""},
		{"-5", "0", "-3", "0", "-8 to 0", "-5 to 3", "0 to 15", ""},
		{"-5", "1", "-1", "3", "-6 to 4", "-8 to 2", "-15 to 5", ""},
		{"0", "0", "-1", "3", "-1 to 3", "-3 to 1", "0 to 0", ""},
		{"1", "2", "0", "3", "1 to 5", "-2 to 2", "0 to 6", ""},
		{"1", "2", "-3", "0", "-2 to 2", "1 to 5", "-6 to 0", ""},
		{"7", "7", "2", "2", "9 to 9", "5 to 5", "14 to 14", "7/2 to 7/2"},
	} {
		// Ends may be in any order.
		for _, a := range []value.Span{span(t, c.aLo, c.aHi), span(t, c.aHi, c.aLo)} {
			for _, b := range []value.Span{span(t, c.bLo, c.bHi), span(t, c.bHi, c.bLo)} {
				if got := spanText(value.SpanAdd(a, b)); got != c.sum {
					t.Errorf("SpanAdd of %s and %s = %s, want %s", spanText(a), spanText(b), got, c.sum)
				}
				if got := spanText(value.SpanSub(a, b)); got != c.difference {
					t.Errorf("SpanSub of %s and %s = %s, want %s", spanText(a), spanText(b), got, c.difference)
				}
				if got := spanText(value.SpanMul(a, b)); got != c.product {
					t.Errorf("SpanMul of %s and %s = %s, want %s", spanText(a), spanText(b), got, c.product)
				}
				q, e := value.SpanDiv(a, b)
				if c.quotient == "" && (e != api.ErrZero || spanText(q) != "0 to 0") || c.quotient != "" && (e != api.OK || spanText(q) != c.quotient) {
					t.Errorf("SpanDiv of %s and %s = %s, %d, want %s", spanText(a), spanText(b), spanText(q), e, c.quotient)
				}
			}
		}
	}
}

func TestP1_6Pow(t *testing.T) {
	for _, c := range []struct {
		lo, hi string
		n      int
		want   string
	}{
		{"-3", "2", 2, "0 to 9"}, {"-2", "3", 2, "0 to 9"}, {"-3", "2", 3, "-27 to 8"}, {"-3", "2", 1, "-3 to 2"}, {"-3", "2", 0, "1 to 1"}, {"-3", "2", -1, "1 to 1"}, {"-3", "2", math.MinInt, "1 to 1"}, {"0", "0", 0, "1 to 1"},
		{"2", "3", 2, "4 to 9"}, {"-3", "-2", 2, "4 to 9"}, {"-3", "-2", 3, "-27 to -8"}, {"0", "2", 4, "0 to 16"}, {"-2", "0", 4, "0 to 16"}, {"-2", "0", 5, "-32 to 0"}, {"-4", "-1/2", 2, "1/4 to 16"},
		{"-1", "2", 64, "0 to 18446744073709551616"}, {"-1", "2", 65, "0 to 18446744073709551616"}, {"-2", "1", math.MaxInt, "0 to 18446744073709551616"}, {"-1", "2", 63, "-1 to 9223372036854775808"},
	} {
		for _, a := range []value.Span{span(t, c.lo, c.hi), span(t, c.hi, c.lo)} {
			if got := spanText(value.SpanPow(a, c.n)); got != c.want {
				t.Errorf("SpanPow(%s, %d) = %s, want %s", spanText(a), c.n, got, c.want)
			}
		}
	}
}

func TestP1_6OneSpan(t *testing.T) {
	for _, c := range []struct {
		lo, hi, negative, out string
		mid, width            string
	}{
		{"0", "3", "-3 to 0", "0 to 3", "3/2", "3"}, {"1/3", "2/3", "-2/3 to -1/3", "5/16 to 3/4", "1/2", "1/3"}, {"-2/3", "-1/3", "1/3 to 2/3", "-3/4 to -5/16", "-1/2", "1/3"}, {"-9", "31", "-31 to 9", "-10 to 32", "11", "40"}, {"-5/2", "-5/2", "5/2 to 5/2", "-5/2 to -5/2", "-5/2", "0"}, {"0", "0", "0 to 0", "0 to 0", "0", "0"},
	} {
		for _, a := range []value.Span{span(t, c.lo, c.hi), span(t, c.hi, c.lo)} {
			if spanText(value.SpanNeg(a)) != c.negative || spanText(value.SpanOut(a, 3)) != c.out || text(value.SpanMid(a)) != c.mid || text(value.SpanWidth(a)) != c.width {
				t.Errorf("%s: SpanNeg %s, SpanOut %s, SpanMid %s, SpanWidth %s", spanText(a), spanText(value.SpanNeg(a)), spanText(value.SpanOut(a, 3)), text(value.SpanMid(a)), text(value.SpanWidth(a)))
			}
		}
	}
	for bits, want := range map[int]string{0: "4 to 16", -7: "4 to 16", math.MinInt: "4 to 16", 1: "4 to 16", 2: "6 to 12", 4: "7 to 9"} {
		if got := spanText(value.SpanOut(span(t, "9", "7"), bits)); got != want {
			t.Errorf("SpanOut of 7 to 9, %d bits = %s, want %s", bits, got, want)
		}
	}
	third := value.Point(parse(t, "1/3"))
	if spanText(value.SpanOut(third, math.MaxInt)) != spanText(value.SpanOut(third, 2000)) || spanText(value.SpanOut(third, 2000)) == spanText(value.SpanOut(third, 1999)) {
		t.Error("SpanOut with more than 2000 bits")
	}
}

func TestP1_6TwoSpans(t *testing.T) {
	for _, c := range []struct{ aLo, aHi, bLo, bHi, join, meet string }{
		{"0", "1", "2", "3", "0 to 3", ""}, {"0", "2", "1", "3", "0 to 3", "1 to 2"}, {"0", "1", "1", "3", "0 to 3", "1 to 1"}, {"0", "9", "2", "3", "0 to 9", "2 to 3"}, {"-1", "2", "-1", "2", "-1 to 2", "-1 to 2"}, {"-1", "2", "-1", "3", "-1 to 3", "-1 to 2"}, {"5", "5", "5", "5", "5 to 5", "5 to 5"}, {"5", "5", "6", "6", "5 to 6", ""}, {"-1/2", "-1/3", "1/3", "1/2", "-1/2 to 1/2", ""},
	} {
		for _, a := range []value.Span{span(t, c.aLo, c.aHi), span(t, c.aHi, c.aLo)} {
			for _, b := range []value.Span{span(t, c.bLo, c.bHi), span(t, c.bHi, c.bLo)} {
				if spanText(value.SpanJoin(a, b)) != c.join || spanText(value.SpanJoin(b, a)) != c.join {
					t.Errorf("SpanJoin of %s and %s = %s", spanText(a), spanText(b), spanText(value.SpanJoin(a, b)))
				}
				for _, p := range [][2]value.Span{{a, b}, {b, a}} {
					m, is := value.SpanMeet(p[0], p[1])
					if is != (c.meet != "") || is && spanText(m) != c.meet || !is && spanText(m) != "0 to 0" {
						t.Errorf("SpanMeet of %s and %s = %s, %v", spanText(p[0]), spanText(p[1]), spanText(m), is)
					}
				}
			}
		}
	}
}

func TestP1_6Has(t *testing.T) {
	for _, a := range []value.Span{span(t, "-1/2", "3"), span(t, "3", "-1/2")} {
		for s, want := range map[string]bool{"-1/2": true, "3": true, "0": true, "1": true, "-51/100": false, "301/100": false, "-7": false, "7": false} {
			if value.SpanHas(a, parse(t, s)) != want {
				t.Errorf("SpanHas(%s, %s) = %v", spanText(a), s, !want)
			}
		}
	}
	if point := span(t, "5", "5"); !value.SpanHas(point, value.Int(5)) || value.SpanHas(point, value.Int(4)) || value.SpanHas(point, value.Int(6)) {
		t.Error("SpanHas of a point")
	}
}

// least is the least span that contains all of these.
func least(l ...*big.Rat) string {
	lo, hi := l[0], l[0]
	for _, r := range l {
		if r.Cmp(lo) < 0 {
			lo = r
		}
		if r.Cmp(hi) > 0 {
			hi = r
		}
	}
	return lo.RatString() + " to " + hi.RatString()
}

func TestP1_6Many(t *testing.T) {
	g := newNumbers()
	zero := new(big.Rat)
	for i := range 3000 {
		bits := 2 + i%120
		a, b := [2]*big.Rat{g.rat(bits), g.rat(bits)}, [2]*big.Rat{g.rat(bits), g.rat(bits)}
		spanA, spanB := value.Span{Lo: numOf(t, a[0]), Hi: numOf(t, a[1])}, value.Span{Lo: numOf(t, b[0]), Hi: numOf(t, b[1])}
		var sums, differences, products, quotients []*big.Rat
		divides := b[0].Sign()*b[1].Sign() > 0
		for _, x := range a {
			for _, y := range b {
				sums, differences, products = append(sums, new(big.Rat).Add(x, y)), append(differences, new(big.Rat).Sub(x, y)), append(products, new(big.Rat).Mul(x, y))
				if divides {
					quotients = append(quotients, new(big.Rat).Quo(x, y))
				}
			}
		}
		if spanText(value.SpanAdd(spanA, spanB)) != least(sums...) || spanText(value.SpanSub(spanA, spanB)) != least(differences...) || spanText(value.SpanMul(spanA, spanB)) != least(products...) {
			t.Fatalf("sum, difference, product of %s and %s", spanText(spanA), spanText(spanB))
		}
		q, e := value.SpanDiv(spanA, spanB)
		if divides && (e != api.OK || spanText(q) != least(quotients...)) || !divides && e != api.ErrZero {
			t.Fatalf("SpanDiv of %s and %s = %s, %d", spanText(spanA), spanText(spanB), spanText(q), e)
		}
		squares := []*big.Rat{new(big.Rat).Mul(a[0], a[0]), new(big.Rat).Mul(a[1], a[1])}
		if a[0].Sign()*a[1].Sign() < 0 {
			squares = append(squares, zero)
		}
		if got := spanText(value.SpanPow(spanA, 2)); got != least(squares...) {
			t.Fatalf("SpanPow of %s = %s", spanText(spanA), got)
		}
		if got := spanText(value.SpanJoin(spanA, spanB)); got != least(a[0], a[1], b[0], b[1]) {
			t.Fatalf("SpanJoin of %s and %s = %s", spanText(spanA), spanText(spanB), got)
		}
	}
}
