package poly_test

import (
	"strings"
	"testing"

	"pentode/api"
	"pentode/poly"
	"pentode/value"
)

// num reads a number, which has to be valid.
func num(t testing.TB, s string) value.Num {
	t.Helper()
	x, e := value.Read(s)
	if e != api.OK {
		t.Fatalf("Read(%.40q) = %d", s, e)
	}
	return x
}

// list reads a polynomial: its coefficients, from that of x^0 on.
func list(t testing.TB, s string) []value.Num {
	t.Helper()
	var p []value.Num
	for _, w := range strings.Fields(s) {
		p = append(p, num(t, w))
	}
	return p
}

// text writes all coefficients, zeros at the end as well.
func text(p []value.Num) string {
	var words []string
	for _, x := range p {
		words = append(words, string(value.Text(x)))
	}
	return strings.Join(words, " ")
}

// texts writes several polynomials.
func texts(l [][]value.Num) string {
	var words []string
	for _, p := range l {
		words = append(words, text(p))
	}
	return strings.Join(words, ", ")
}

// span has its ends as they are told, in order or not.
func span(t testing.TB, lo, hi string) value.Span {
	t.Helper()
	return value.Span{Lo: num(t, lo), Hi: num(t, hi)}
}

// spanText writes a span by its fields alone.
func spanText(a value.Span) string {
	return string(value.Text(a.Lo)) + ":" + string(value.Text(a.Hi))
}

func spanTexts(l []value.Span) string {
	var words []string
	for _, a := range l {
		words = append(words, spanText(a))
	}
	return strings.Join(words, " ")
}

// same reports whether two polynomials without zeros at their ends are equal.
func same(p, q []value.Num) bool {
	return text(p) == text(q)
}

func ints(l ...int64) []value.Num {
	var p []value.Num
	for _, n := range l {
		p = append(p, value.Int(n))
	}
	return p
}

// ratio is a quotient of integers, the second one not 0.
func ratio(a, b int64) value.Num {
	x, _ := value.Ratio(a, b)
	return x
}

// quotient is x divided by y, which is not 0.
func quotient(x, y value.Num) value.Num {
	z, _ := value.Div(x, y)
	return z
}

// twoTo is 2 to the power n, or 1 divided by 2 to the power -n.
func twoTo(n int) value.Num {
	factor := value.Int(2)
	if n < 0 {
		factor, n = ratio(1, 2), -n
	}
	z := value.Int(1)
	for range n {
		z = value.Mul(z, factor)
	}
	return z
}

// product multiplies polynomials, none of which is 0.
func product(l ...[]value.Num) []value.Num {
	p := ints(1)
	for _, q := range l {
		p = poly.Mul(p, q)
	}
	return p
}

// times is p to the power n.
func times(p []value.Num, n int) []value.Num {
	z := ints(1)
	for range n {
		z = poly.Mul(z, p)
	}
	return z
}

// monic is p, which is not 0, divided by its highest coefficient.
func monic(p []value.Num) []value.Num {
	return poly.Scale(p, quotient(value.Int(1), p[poly.Deg(p)]))
}

// withRoot is the polynomial x - r.
func withRoot(r value.Num) []value.Num {
	return []value.Num{value.Neg(r), value.Int(1)}
}

// withPair is the polynomial with the roots a + b i and a - b i.
func withPair(a, b value.Num) []value.Num {
	size := value.Add(value.Mul(a, a), value.Mul(b, b))
	return []value.Num{size, value.Mul(a, value.Int(-2)), value.Int(1)}
}

// chebyshev has n roots from -1 to 1.
func chebyshev(n int) []value.Num {
	before, p := ints(1), ints(0, 1)
	for range n - 1 {
		before, p = p, poly.Sub(poly.Mul(ints(0, 2), p), before)
	}
	return p
}

// upTo has the roots 1 to n.
func upTo(n int64) []value.Num {
	p := ints(1)
	for r := int64(1); r <= n; r++ {
		p = poly.Mul(p, ints(-r, 1))
	}
	return p
}

// power is x^n, with n zeros before its last coefficient.
func power(n int) []value.Num {
	p := make([]value.Num, n+1)
	p[n] = value.Int(1)
	return p
}

// numbers gives the same numbers in each run.
type numbers struct{ state uint64 }

func newNumbers() *numbers {
	return &numbers{state: 88172645463325252}
}

// below is an int from 0 to n - 1.
func (g *numbers) below(n int) int {
	g.state ^= g.state << 13
	g.state ^= g.state >> 7
	g.state ^= g.state << 17
	return int(g.state % uint64(n))
}

// num is a small number, often an integer, and often 0.
func (g *numbers) num() value.Num {
	bottom := int64(1)
	if g.below(3) == 0 {
		bottom = int64(1 + g.below(12))
	}
	return ratio(int64(g.below(13)-6), bottom)
}

// poly has a degree of at most n.
func (g *numbers) poly(n int) []value.Num {
	var p []value.Num
	for range g.below(n + 2) {
		p = append(p, g.num())
	}
	return p
}

// nonzero is a polynomial that is not 0.
func (g *numbers) nonzero(n int) []value.Num {
	for {
		if p := g.poly(n); poly.Deg(p) >= 0 {
			return p
		}
	}
}
