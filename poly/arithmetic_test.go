package poly_test

import (
	"testing"

	"pentode/api"
	"pentode/poly"
	"pentode/value"
)

func TestP2_1TrimAndDeg(t *testing.T) {
	for _, c := range []struct {
		p, want string
		deg     int
	}{
		{"", "", -1}, {"0", "", -1}, {"0 0 0", "", -1}, {"5", "5", 0}, {"5 0", "5", 0}, {"0 1", "0 1", 1}, {"1 0 2 0 0", "1 0 2", 2}, {"1/3 0 -1/7", "1/3 0 -1/7", 2},
	} {
		p := list(t, c.p)
		if got := text(poly.Trim(p)); got != c.want || poly.Deg(p) != c.deg {
			t.Errorf("Trim(%s) = %s, Deg = %d", c.p, got, poly.Deg(p))
		}
	}
	if poly.Deg(power(1000)) != 1000 {
		t.Errorf("Deg = %d", poly.Deg(power(1000)))
	}
}

func TestP2_1Arithmetic(t *testing.T) {
	for _, c := range []struct{ p, q, sum, difference, product string }{
		{"1 2", "3 4", "4 6", "-2 -2", "3 10 8"},
		{"1 2", "3 -2 0", "4", "-2 4", "3 4 -4"},
		{"1 2", "1 2", "2 4", "", "1 4 4"},
		{"1", "0 0 1", "1 0 1", "1 0 -1", "0 0 1"},
		{"0 0 1", "1", "1 0 1", "-1 0 1", "0 0 1"},
		{"", "", "", "", ""},
		{"0 0", "5 1", "5 1", "-5 -1", ""},
		{"5 1 0", "0", "5 1", "5 1", ""},
		{"1/2 1/3", "1/2 -1/3", "1", "0 2/3", "1/4 0 -1/9"},
	} {
		p, q := list(t, c.p), list(t, c.q)
		if text(poly.Add(p, q)) != c.sum || text(poly.Sub(p, q)) != c.difference || text(poly.Mul(p, q)) != c.product {
			t.Errorf("%s and %s: %s, %s, %s", c.p, c.q, text(poly.Add(p, q)), text(poly.Sub(p, q)), text(poly.Mul(p, q)))
		}
	}
	for _, c := range []struct{ p, x, want string }{
		{"2 4", "0.5", "1 2"}, {"2 4", "-1", "-2 -4"}, {"2 4 0", "1", "2 4"}, {"2 4", "0", ""}, {"", "7", ""}, {"0 0", "7", ""},
	} {
		if got := text(poly.Scale(list(t, c.p), num(t, c.x))); got != c.want {
			t.Errorf("Scale(%s, %s) = %s", c.p, c.x, got)
		}
	}
	for p, want := range map[string]string{"5 0 3": "0 6", "5": "", "": "", "0 0": "", "1 2 0": "2", "7 1/2 1/3 1/4": "1/2 2/3 3/4"} {
		if got := text(poly.Deriv(list(t, p))); got != want {
			t.Errorf("Deriv(%s) = %s", p, got)
		}
	}
}

func TestP2_1Eval(t *testing.T) {
	for _, c := range []struct{ p, x, want string }{
		{"2 -3 1", "3", "2"}, {"2 -3 1 0", "1", "0"}, {"", "3", "0"}, {"0 0", "3", "0"}, {"5", "100", "5"}, {"1 1 1", "-1/2", "3/4"}, {"0 0 0 8", "1/2", "1"},
	} {
		if got := string(value.Text(poly.Eval(list(t, c.p), num(t, c.x)))); got != c.want {
			t.Errorf("Eval(%s, %s) = %s", c.p, c.x, got)
		}
	}
	// No limit of degrees holds here.
	if got := poly.Eval(power(1000), value.Int(2)); value.Cmp(got, twoTo(1000)) != 0 {
		t.Errorf("Eval of x^1000 = %s", value.Text(got))
	}
}

func TestP2_1EvalSpan(t *testing.T) {
	for _, c := range []struct{ p, lo, hi, want string }{
		{"2 -3 1", "0", "2", "-4:2"}, {"2 -3 1", "2", "0", "-4:2"}, {"2 -3 1", "3", "3", "2:2"}, {"", "0", "2", "0:0"}, {"0 0", "-1", "2", "0:0"}, {"5", "-1", "2", "5:5"}, {"5 0 0", "-1", "2", "5:5"},
		{"0 0 1", "-1", "2", "-2:4"}, {"0 0 1", "2", "-1", "-2:4"}, {"1 -1", "-1/2", "1/3", "2/3:3/2"},
	} {
		if got := spanText(poly.EvalSpan(list(t, c.p), span(t, c.lo, c.hi))); got != c.want {
			t.Errorf("EvalSpan(%s, %s to %s) = %s", c.p, c.lo, c.hi, got)
		}
	}
	g := newNumbers()
	for range 200 {
		p, a := g.poly(6), value.Span{Lo: g.num(), Hi: g.num()}
		want := value.Span{}
		for i := poly.Deg(p); i >= 0; i-- {
			want = value.SpanAdd(value.SpanMul(want, a), value.Point(p[i]))
		}
		got := poly.EvalSpan(p, a)
		if spanText(got) != spanText(want) || !value.SpanHas(got, poly.Eval(p, value.SpanMid(a))) {
			t.Fatalf("EvalSpan(%s, %s) = %s", text(p), spanText(a), spanText(got))
		}
	}
}

func TestP2_2Div(t *testing.T) {
	for _, c := range []struct{ p, q, quotient, rest string }{
		{"-1 0 0 1", "-1 1", "1 1 1", ""}, {"1 2 3", "1 2", "1/4 3/2", "3/4"}, {"1 2", "0 0 1", "", "1 2"}, {"1 2 0", "0 0 1 0", "", "1 2"}, {"", "5", "", ""}, {"0 0", "0 5", "", ""}, {"2 4", "2", "1 2", ""}, {"2 4", "2 0 0", "1 2", ""}, {"1 0 0 0 1", "1 0 1", "-1 0 1", "2"}, {"7 0 0 1", "0 0 2", "0 1/2", "7"},
	} {
		q, r, e := poly.Div(list(t, c.p), list(t, c.q))
		if e != api.OK || text(q) != c.quotient || text(r) != c.rest {
			t.Errorf("Div(%s, %s) = %s, %s, %d", c.p, c.q, text(q), text(r), e)
		}
	}
	g := newNumbers()
	for range 300 {
		p, q := g.poly(9), g.nonzero(6)
		quotient, rest, e := poly.Div(p, q)
		if e != api.OK || poly.Deg(rest) >= poly.Deg(q) || !same(poly.Add(poly.Mul(q, quotient), rest), poly.Trim(p)) {
			t.Fatalf("Div(%s, %s) = %s, %s, %d", text(p), text(q), text(quotient), text(rest), e)
		}
		if len(quotient) != poly.Deg(quotient)+1 || len(rest) != poly.Deg(rest)+1 {
			t.Fatalf("zeros at the ends of %s, %s", text(quotient), text(rest))
		}
	}
}

func TestP2_2Gcd(t *testing.T) {
	for _, c := range [][3]string{
		{"2 -3 1", "-2 2", "-1 1"}, {"1 1", "1 2", "1"}, {"", "0 4", "0 1"}, {"0 4", "0 0", "0 1"}, {"", "0", ""}, {"0 0 2", "0 3", "0 1"}, {"5", "0 1", "1"}, {"-5", "3", "1"}, {"-5", "", "1"}, {"-1/3 0 1/3 0", "-1 -1", "1 1"}, {"1 1 1", "1 1 1", "1 1 1"}, {"-2 0 1", "-4 0 0 0 1", "-2 0 1"},
		// Of these, Euclid's rests have degrees far from each other.
		{"-1 0 0 0 0 0 0 1", "-1 0 0 0 1", "-1 1"}, {"1 0 0 0 0 0 0 0 0 0 1", "1 0 1", "1 0 1"},
	} {
		if g, e := poly.Gcd(list(t, c[0]), list(t, c[1])); e != api.OK || text(g) != c[2] {
			t.Errorf("Gcd(%s, %s) = %s, %d", c[0], c[1], text(g), e)
		}
	}
}

func TestP2_2GcdOfLongNumbers(t *testing.T) {
	// Denominators of more digits than a Val has.
	long := twoTo(9000)
	a, b := value.Add(long, value.Int(1)), value.Add(long, value.Int(3))
	common := []value.Num{quotient(value.Int(7), a), quotient(value.Int(1), b)}
	p, q := poly.Mul(common, ints(1, 2)), poly.Mul(common, ints(1, 5))
	if g, e := poly.Gcd(p, q); e != api.OK || !same(g, monic(common)) {
		t.Errorf("Gcd of polynomials with long numbers: %d, degree %d", e, poly.Deg(g))
	}
}

func TestP2_2Parts(t *testing.T) {
	for p, want := range map[string]string{"0 0 1 1": "1 1, 0 1", "5": "", "-5 0": "", "3 3": "1 1", "0 0 0 2": "1, 1, 0 1", "1 0 -2 0 1": "1, -1 0 1", "-1/2 0 1/4": "-2 0 1"} {
		if l, e := poly.Parts(list(t, p)); e != api.OK || texts(l) != want {
			t.Errorf("Parts(%s) = %s, %d", p, texts(l), e)
		}
	}
	l, e := poly.Parts(poly.Scale(product(times(ints(-2, 0, 1), 3), times(ints(1, 2), 5), ints(1, 1, 1), ints(0, 1)), ratio(-7, 3)))
	if e != api.OK || texts(l) != "0 1 1 1, 1, -2 0 1, 1, 1/2 1" {
		t.Errorf("Parts = %s, %d", texts(l), e)
	}
	if l, e = poly.Parts(power(40)); e != api.OK || len(l) != 40 || text(l[39]) != "0 1" || text(l[38]) != "1" || text(l[0]) != "1" {
		t.Errorf("Parts of x^40 = %s, %d", texts(l), e)
	}
}

func TestP2_8Ring(t *testing.T) {
	g := newNumbers()
	for range 150 {
		p, q, r := g.poly(5), g.poly(5), g.poly(5)
		x := g.num()
		sum, product := poly.Add(p, q), poly.Mul(p, q)
		if !same(sum, poly.Add(q, p)) || !same(product, poly.Mul(q, p)) {
			t.Fatalf("%s and %s do not commute", text(p), text(q))
		}
		if !same(poly.Add(sum, r), poly.Add(p, poly.Add(q, r))) || !same(poly.Mul(product, r), poly.Mul(p, poly.Mul(q, r))) {
			t.Fatalf("%s, %s and %s do not associate", text(p), text(q), text(r))
		}
		if !same(poly.Mul(sum, r), poly.Add(poly.Mul(p, r), poly.Mul(q, r))) || !same(poly.Sub(sum, q), poly.Trim(p)) {
			t.Fatalf("the product of %s and %s by %s does not distribute", text(p), text(q), text(r))
		}
		if poly.Deg(p) >= 0 && poly.Deg(q) >= 0 && poly.Deg(product) != poly.Deg(p)+poly.Deg(q) {
			t.Fatalf("Deg of the product of %s and %s", text(p), text(q))
		}
		if value.Cmp(poly.Eval(sum, x), value.Add(poly.Eval(p, x), poly.Eval(q, x))) != 0 || value.Cmp(poly.Eval(product, x), value.Mul(poly.Eval(p, x), poly.Eval(q, x))) != 0 {
			t.Fatalf("values of %s and %s at %s", text(p), text(q), value.Text(x))
		}
		if !same(poly.Deriv(product), poly.Add(poly.Mul(poly.Deriv(p), q), poly.Mul(p, poly.Deriv(q)))) {
			t.Fatalf("the derivative of the product of %s and %s", text(p), text(q))
		}
		for _, l := range [][]value.Num{sum, product, poly.Sub(p, q), poly.Deriv(p), poly.Scale(p, x), poly.Trim(p)} {
			if len(l) != poly.Deg(l)+1 {
				t.Fatalf("zeros at the end of %s, from %s and %s", text(l), text(p), text(q))
			}
		}
	}
}

// divides reports whether d divides p; 0 divides nothing but 0.
func divides(d, p []value.Num) bool {
	if poly.Deg(d) < 0 {
		return poly.Deg(p) < 0
	}
	_, rest, e := poly.Div(p, d)
	return e == api.OK && len(rest) == 0
}

func TestP2_9Divisors(t *testing.T) {
	g := newNumbers()
	for range 200 {
		p, q, d := g.poly(6), g.poly(6), g.nonzero(4)
		common, e := poly.Gcd(p, q)
		if e != api.OK || !divides(common, p) || !divides(common, q) || len(common) > 0 && !same(common, monic(common)) {
			t.Fatalf("Gcd(%s, %s) = %s, %d", text(p), text(q), text(common), e)
		}
		// Each common divisor divides it: so it is multiplied by what both are multiplied by.
		more, e := poly.Gcd(poly.Mul(p, d), poly.Mul(q, d))
		want := poly.Mul(common, monic(d))
		if e != api.OK || !same(more, want) {
			t.Fatalf("Gcd(%s, %s), times %s = %s, %d", text(p), text(q), text(d), text(more), e)
		}
		if other, e := poly.Gcd(q, p); e != api.OK || !same(other, common) {
			t.Fatalf("Gcd(%s, %s) = %s, %d", text(q), text(p), text(other), e)
		}
	}
}

func TestP2_9Parts(t *testing.T) {
	g := newNumbers()
	for range 100 {
		p := product(g.nonzero(3), times(g.nonzero(2), 2), times(g.nonzero(2), 1+g.below(4)), times(g.nonzero(1), 1+g.below(6)))
		parts, e := poly.Parts(p)
		if e != api.OK {
			t.Fatalf("Parts(%s): %d", text(p), e)
		}
		all := ints(1)
		for i, part := range parts {
			all = poly.Mul(all, times(part, i+1))
			if common, _ := poly.Gcd(part, poly.Deriv(part)); !same(common, ints(1)) || !same(part, monic(part)) {
				t.Fatalf("part %d of %s = %s", i+1, text(p), text(part))
			}
			for _, other := range parts[:i] {
				if common, _ := poly.Gcd(part, other); !same(common, ints(1)) {
					t.Fatalf("two parts of %s have %s in common", text(p), text(common))
				}
			}
		}
		if !same(all, monic(p)) || len(parts) > 0 && poly.Deg(parts[len(parts)-1]) == 0 {
			t.Fatalf("Parts(%s) = %s", text(p), texts(parts))
		}
	}
}
