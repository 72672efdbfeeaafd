package filter_test

import (
	"strconv"
	"strings"
	"testing"

	"pentode/api"
	"pentode/poly"
	"pentode/value"
)

// num reads a number, which has to be valid.
func num(t testing.TB, v api.Val) value.Num {
	t.Helper()
	x, e := value.Parse(v)
	if e != api.OK {
		t.Fatalf("Parse(%.40q) = %d", v, e)
	}
	return x
}

// nums reads numbers that are separated by blanks.
func nums(t testing.TB, s string) []value.Num {
	t.Helper()
	var list []value.Num
	for word := range strings.FieldsSeq(s) {
		list = append(list, num(t, api.Val(word)))
	}
	return list
}

// show writes numbers as nums reads them.
func show(list []value.Num) string {
	var words []string
	for _, x := range list {
		words = append(words, string(value.Text(x)))
	}
	return strings.Join(words, " ")
}

// span reads the ends of a span, in any order.
func span(t testing.TB, s string) value.Span {
	t.Helper()
	ends := nums(t, s)
	return value.Span{Lo: ends[0], Hi: ends[1]}
}

// ranges reads the ends of ranges.
func ranges(s string) []api.Range {
	ends := strings.Fields(s)
	var list []api.Range
	for i := 0; i+1 < len(ends); i += 2 {
		list = append(list, api.Range{Lo: api.Val(ends[i]), Hi: api.Val(ends[i+1])})
	}
	return list
}

// mask reads bands, which are separated by commas: Lo, Hi, Least and Most.
func mask(s string) []api.FlBand {
	var bands []api.FlBand
	for part := range strings.SplitSeq(s, ",") {
		if w := strings.Fields(part); len(w) == 4 {
			bands = append(bands, api.FlBand{Lo: api.Val(w[0]), Hi: api.Val(w[1]), Least: api.Val(w[2]), Most: api.Val(w[3])})
		}
	}
	return bands
}

// terms reads a polynomial: its terms are separated by commas, and have a number and then the powers.
func terms(s string) []api.SyTerm {
	var p []api.SyTerm
	for part := range strings.SplitSeq(s, ",") {
		words := strings.Fields(part)
		if len(words) == 0 {
			continue
		}
		t := api.SyTerm{Coef: api.Val(words[0])}
		for _, word := range words[1:] {
			n, _ := strconv.Atoi(word)
			t.Pows = append(t.Pows, n)
		}
		p = append(p, t)
	}
	return p
}

// digits is the text of an integer with so many digits.
func digits(n int) api.Val {
	return api.Val("1" + strings.Repeat("0", n-1))
}

// power is s^n, with n zeros before its last coefficient.
func power(n int) []value.Num {
	p := make([]value.Num, n+1)
	p[n] = value.Int(1)
	return p
}

// isList holds a polynomial or a list and an error against what they have to be.
func isList(t *testing.T, what string, p []value.Num, e api.Errno, want string, wantE api.Errno) {
	t.Helper()
	if show(p) != want || e != wantE || e != api.OK && p != nil {
		t.Errorf("%s = %.200s, %d, not %.200s, %d", what, show(p), e, want, wantE)
	}
}

// hasError holds an error against what it has to be, and a list beside it.
func hasError(t *testing.T, what string, p []value.Num, e, want api.Errno) {
	t.Helper()
	if e != want || e != api.OK && p != nil {
		t.Errorf("%s = %.200s, %d, not %d", what, show(p), e, want)
	}
}

// quotient is x divided by y, which is not 0; ratio that of ints.
func quotient(x, y value.Num) value.Num {
	z, _ := value.Div(x, y)
	return z
}

func ratio(a, b int) value.Num {
	return quotient(value.Int(int64(a)), value.Int(int64(b)))
}

func ints(l ...int64) []value.Num {
	var p []value.Num
	for _, n := range l {
		p = append(p, value.Int(n))
	}
	return p
}

// times is p to the power n.
func times(p []value.Num, n int) []value.Num {
	z := ints(1)
	for range n {
		z = poly.Mul(z, p)
	}
	return z
}

// numbers gives the same numbers in each run.
type numbers struct{ state uint64 }

func newNumbers() *numbers {
	return &numbers{state: 88172645463325252}
}

// below is an int from 0 to n - 1.
func (g *numbers) below(n int) int {
	g.state ^= g.state << 13
	g.state ^= g.state >> 7
	g.state ^= g.state << 17
	return int(g.state % uint64(n))
}

// num is a small number, above one above 0.
func (g *numbers) num() value.Num {
	return ratio(g.below(21)-10, 1+g.below(4))
}

func (g *numbers) above() value.Num {
	return ratio(1+g.below(12), 1+g.below(5))
}

// poly has a degree of at most n; often it has zeros at its end.
func (g *numbers) poly(n int) []value.Num {
	var p []value.Num
	for range g.below(n + 2) {
		p = append(p, g.num())
	}
	return p
}

// nonzero is a polynomial that is not 0.
func (g *numbers) nonzero(n int) []value.Num {
	for {
		if p := g.poly(n); poly.Deg(p) >= 0 {
			return p
		}
	}
}

// hurwitz is a Hurwitz polynomial with the degree n: it is made of factors whose roots are known.
func (g *numbers) hurwitz(n int) []value.Num {
	p := []value.Num{g.above()}
	if g.below(2) == 0 {
		p[0] = value.Neg(p[0])
	}
	for poly.Deg(p) < n {
		if poly.Deg(p) < n-1 && g.below(3) > 0 {
			p = poly.Mul(p, []value.Num{g.above(), g.above(), value.Int(1)})
		} else {
			p = poly.Mul(p, []value.Num{g.above(), value.Int(1)})
		}
	}
	return p
}

// span is one from 0 on or from a number above 0 on; sometimes it is a point.
func (g *numbers) span() value.Span {
	s := value.Span{Lo: value.Int(0)}
	if g.below(2) == 0 {
		s.Lo = g.above()
	}
	s.Hi = s.Lo
	if g.below(6) > 0 {
		s.Hi = value.Add(s.Lo, g.above())
	}
	return s
}

// inside is a number of a span: often an end.
func (g *numbers) inside(s value.Span) value.Num {
	return value.Add(s.Lo, value.Mul(ratio(g.below(9), 8), value.Sub(s.Hi, s.Lo)))
}

// band is one around the square that a transfer function has at some of its frequencies: so it is met about as often as not.
func (g *numbers) band(num, den []value.Num) api.FlBand {
	s := g.span()
	limits := value.Point(value.Int(int64(g.below(2))))
	for range 5 {
		w := g.inside(s)
		n, d := squareAt(fracs(num), frac(value.Text(w))), squareAt(fracs(den), frac(value.Text(w)))
		if d.Sign() > 0 {
			x, _ := value.Parse(textOf(over(n, d)))
			limits = value.SpanJoin(limits, value.Point(x))
		}
	}
	most := value.Mul(limits.Hi, ratio(7+g.below(4), 8))
	return api.FlBand{
		Lo: value.Text(s.Lo), Hi: value.Text(s.Hi),
		Least: value.Text(value.Min(most, value.Mul(limits.Lo, ratio(9-g.below(4), 8)))), Most: value.Text(most),
	}
}

// bands are some for a transfer function.
func (g *numbers) bands(num, den []value.Num) []api.FlBand {
	var list []api.FlBand
	for range 1 + g.below(3) {
		list = append(list, g.band(num, den))
	}
	return list
}

// task is a valid one with so many symbols and at most so many terms in each polynomial; its mask is about met.
func (g *numbers) task(syms, count int) api.FlTask {
	var t api.FlTask
	var mid []value.Num
	for range syms {
		lo := g.above()
		s := value.Span{Lo: lo, Hi: value.Add(lo, value.Mul(g.above(), ratio(g.below(3), 20)))}
		if g.below(5) == 0 {
			s = value.SpanNeg(s)
		}
		mid = append(mid, value.SpanMid(s))
		t.Box = append(t.Box, value.SpanText(s))
	}
	for _, p := range []*[]api.SyTerm{&t.Num, &t.Den} {
		for range 1 + g.below(count) {
			term := api.SyTerm{Coef: value.Text(g.above()), Pows: []int{g.below(4)}}
			if g.below(4) == 0 {
				term.Coef = value.Text(g.num())
			}
			for range syms {
				term.Pows = append(term.Pows, g.below(3))
			}
			*p = append(*p, term)
		}
	}
	x := fracs(mid)
	t.Mask = g.bands(numsOf(formOf(t.Num).at(x)), numsOf(formOf(t.Den).at(x)))
	for i, b := range t.Mask { // somewhat wider, so that it is met at the vertices more often
		least, _ := value.Parse(b.Least)
		most, _ := value.Parse(b.Most)
		t.Mask[i].Least = value.Text(value.Mul(least, ratio(g.below(8), 8)))
		t.Mask[i].Most = value.Text(value.Mul(most, ratio(8+g.below(9), 8)))
	}
	return t
}
