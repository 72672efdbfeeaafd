package poly_test

import (
	"math"
	"testing"

	"pentode/api"
	"pentode/poly"
	"pentode/value"
)

func TestP2_3Bound(t *testing.T) {
	for p, want := range map[string]string{"2 -3 1": "4", "-3": "1", "5 0": "1", "0 0 2": "1", "0 1/2 -1/8": "5", "-7 3 1": "8", "1 0 0 4": "5/4"} {
		if b, e := poly.Bound(list(t, p)); e != api.OK || string(value.Text(b)) != want {
			t.Errorf("Bound(%s) = %s, %d", p, value.Text(b), e)
		}
	}
	for _, k := range someKnown() {
		b, e := poly.Bound(k.p)
		if e != api.OK || value.Cmp(b, k.bound()) != 0 || len(k.above(value.Neg(b), b)) != len(k.roots) {
			t.Errorf("Bound(%s) = %s, %d", text(k.p), value.Text(b), e)
		}
	}
}

// places are numbers at the roots, beside them, and elsewhere.
func places(k known) []value.Num {
	l := []value.Num{value.Int(-9), value.Int(0), ratio(1, 2), ratio(3, 2), value.Int(2)}
	for _, r := range k.roots {
		if r.sign == 0 {
			l = append(l, r.number, value.Add(r.number, twoTo(-250)), value.Sub(r.number, ratio(1, 1000)))
		}
	}
	return l
}

func TestP2_3Count(t *testing.T) {
	p := list(t, "2 -3 1")
	for _, c := range []struct {
		lo, hi string
		n      int
		e      api.Errno
	}{{"0", "1", 1, api.OK}, {"1", "2", 1, api.OK}, {"0", "2", 2, api.OK}, {"2", "9", 0, api.OK}, {"1", "1", 0, api.OK}, {"1", "0", 0, api.ErrRange}, {"1", "999/1000", 0, api.ErrRange}, {"4/3", "5/2", 1, api.OK}} {
		if n, e := poly.Count(p, num(t, c.lo), num(t, c.hi)); n != c.n || e != c.e {
			t.Errorf("Count(%s, %s) = %d, %d", c.lo, c.hi, n, e)
		}
	}
	for _, k := range someKnown() {
		l := places(k)
		for _, lo := range l {
			for _, hi := range l {
				want, wantE := len(k.above(lo, hi)), api.OK
				if value.Cmp(lo, hi) > 0 {
					want, wantE = 0, api.ErrRange
				}
				if n, e := poly.Count(k.p, lo, hi); n != want || e != wantE {
					t.Errorf("Count(%s, %s, %s) = %d, %d, want %d, %d", text(k.p), value.Text(lo), value.Text(hi), n, e, want, wantE)
				}
			}
		}
	}
	if n, e := poly.Count(upTo(40), ratio(1, 2), ratio(61, 2)); n != 30 || e != api.OK {
		t.Errorf("Count of 1 to 40 = %d, %d", n, e)
	}
}

func TestP2_4Roots(t *testing.T) {
	for _, c := range []struct {
		p    string
		bits int
		want string
	}{
		{"-2 0 1", 0, "-2:-1 1:2"}, {"-2 0 1", 2, "-3/2:-5/4 5/4:3/2"}, {"-2 0 1", math.MinInt, "-2:-1 1:2"}, {"2 -3 1", 3, "1:1 2:2"}, {"1 0 1", 5, ""}, {"7", 5, ""}, {"0 1", 9, "0:0"}, {"0 0 3", -1, "0:0"}, {"-1/2 0 0 1", 0, "0:1"}, {"0 -3/2 1", 0, "0:0 1:2"}, {"-3/2 1", 0, "1:2"}, {"-3/2 1", 1, "3/2:3/2"}, {"-3 1 0", 0, "3:3"},
		// The lower end of 0 to 1 is a root: so it is split, also if it is narrow enough.
		{"0 -1/3 1", 0, "0:0 1/4:1/2"},
	} {
		if l, e := poly.Roots(list(t, c.p), c.bits); e != api.OK || spanTexts(l) != c.want {
			t.Errorf("Roots(%s, %d) = %s, %d, want %s", c.p, c.bits, spanTexts(l), e, c.want)
		}
	}
	for _, k := range someKnown() {
		for _, bits := range []int{-3, 0, 1, 5, 17, 100, 211} {
			want := k.expected(bits)
			if l, e := poly.Roots(k.p, bits); e != api.OK || spanTexts(l) != spanTexts(want) {
				t.Errorf("Roots(%s, %d) = %s, %d, want %s", text(k.p), bits, spanTexts(l), e, spanTexts(want))
			}
		}
	}
}

func TestP2_4MostBits(t *testing.T) {
	for _, k := range someKnown()[:18] {
		want := k.expected(1000)
		for _, bits := range []int{1000, 1001, math.MaxInt} {
			if l, e := poly.Roots(k.p, bits); e != api.OK || spanTexts(l) != spanTexts(want) {
				t.Errorf("Roots(%s, %d) = %d spans, %d", text(k.p), bits, len(l), e)
			}
		}
	}
}

func TestP2_4GreatestDegree(t *testing.T) {
	for _, p := range [][]value.Num{chebyshev(40), upTo(40)} {
		l, e := poly.Roots(p, 200)
		if e != api.OK || len(l) != 40 {
			t.Fatalf("Roots = %d spans, %d", len(l), e)
		}
		for _, a := range l {
			lo, hi := poly.Eval(p, a.Lo), poly.Eval(p, a.Hi)
			if value.Sign(lo)*value.Sign(hi) > 0 || value.Cmp(value.SpanWidth(a), twoTo(-200)) > 0 {
				t.Fatalf("no root in %s", spanText(a))
			}
		}
	}
	// Two pairs of roots that are very close: x^40 is twice the square of 1000000 x - 1.
	square := times(ints(-1, 1000000), 2)
	if l, e := poly.Roots(poly.Sub(power(40), poly.Scale(square, value.Int(2))), 0); e != api.OK || len(l) != 4 {
		t.Errorf("Roots of close pairs = %d spans, %d", len(l), e)
	}
}

// someQueries are polynomials whose signs are asked for.
func someQueries(t testing.TB) [][]value.Num {
	t.Helper()
	var l [][]value.Num
	for _, s := range []string{"", "0", "1", "-1/3", "0 1", "1 -1", "-7 5", "-3 2", "-2 0 1", "4 0 -4 0 1", "5 1 -2 1/2", "0 0 0 0 0 0 -1", "-1414213562 1000000000", "-1 3", "1 3 0"} {
		l = append(l, list(t, s))
	}
	return append(l, chebyshev(40))
}

func TestP2_5SignAt(t *testing.T) {
	for _, c := range []struct {
		p, lo, hi, q string
		n            int
		e            api.Errno
	}{
		{"-2 0 1", "1", "2", "-3 2", -1, api.OK}, {"-2 0 1", "2", "1", "-3 2", -1, api.OK}, {"-2 0 1", "1", "2", "-7 5", 1, api.OK}, {"-2 0 1", "1", "2", "-4 0 0 0 1", 0, api.OK}, {"-2 0 1", "1", "2", "", 0, api.OK}, {"2 -3 1", "1", "3/2", "5 -4", 1, api.OK}, {"2 -3 1", "2", "2", "1 -1", -1, api.OK}, {"2 -3 1", "1/2", "1", "1 -3", -1, api.OK}, {"0 0 1 1", "-1/2", "1", "1 1", 1, api.OK},
		{"-2 0 1", "-2", "2", "1", 0, api.ErrRange}, {"-2 0 1", "2", "3", "1", 0, api.ErrRange}, {"-2 0 1", "2", "3", "", 0, api.ErrRange}, {"0", "2", "3", "1", 0, api.ErrZero}, {"7", "2", "3", "1", 0, api.ErrRange}, {"2 -3 1", "1", "2", "1", 0, api.ErrRange},
	} {
		if n, e := poly.SignAt(list(t, c.p), span(t, c.lo, c.hi), list(t, c.q)); n != c.n || e != c.e {
			t.Errorf("SignAt(%s, %s to %s, %s) = %d, %d", c.p, c.lo, c.hi, c.q, n, e)
		}
	}
	for _, k := range someKnown() {
		l := places(k)
		for i, lo := range l {
			a := value.Span{Lo: lo, Hi: l[(3*i+1)%len(l)]}
			in := k.within(a)
			for _, q := range someQueries(t) {
				want, wantE := 0, api.ErrRange
				if len(in) == 1 {
					want, wantE = in[0].signOf(q), api.OK
				}
				if n, e := poly.SignAt(k.p, a, q); n != want || e != wantE {
					t.Errorf("SignAt(%s, %s, %s) = %d, %d, want %d, %d", text(k.p), spanText(a), text(q), n, e, want, wantE)
				}
			}
		}
	}
}

func TestP2_5Positive(t *testing.T) {
	for _, c := range []struct {
		p, lo, hi string
		n         int
	}{{"1 0 1", "-5", "5", 1}, {"-2 0 1", "0", "1", -1}, {"-2 0 1", "1", "0", -1}, {"0 1", "0", "1", 0}, {"-1 1", "0", "1", 0}, {"", "0", "1", 0}, {"0 0", "1", "1", 0}, {"-3", "1", "1", -1}, {"3 0", "-1", "1", 1}, {"1 -2 1", "0", "2", 0}, {"1 -2 1", "0", "1/2", 1}, {"-1 2 -1", "2", "3/2", -1}, {"0 1", "-1", "1", 0}, {"2 -3 1", "0", "3", 0}} {
		if n, e := poly.Positive(list(t, c.p), span(t, c.lo, c.hi)); n != c.n || e != api.OK {
			t.Errorf("Positive(%s, %s to %s) = %d, %d", c.p, c.lo, c.hi, n, e)
		}
	}
	for _, k := range someKnown() {
		l := places(k)
		for i, lo := range l {
			a := value.Span{Lo: lo, Hi: l[(2*i+3)%len(l)]}
			want := 0
			if len(k.within(a)) == 0 {
				want = value.Sign(poly.Eval(k.p, lo))
			}
			if n, e := poly.Positive(k.p, a); n != want || e != api.OK {
				t.Errorf("Positive(%s, %s) = %d, %d, want %d", text(k.p), spanText(a), n, e, want)
			}
		}
	}
}

// inside reports whether the span a is within b.
func inside(a, b value.Span) bool {
	return value.SpanHas(b, a.Lo) && value.SpanHas(b, a.Hi)
}

func TestP2_10Roots(t *testing.T) {
	g := newNumbers()
	for range 120 {
		p := g.nonzero(9)
		bound, _ := poly.Bound(p)
		all, _ := poly.Count(p, value.Neg(bound), bound)
		var before []value.Span
		for _, bits := range []int{0, 2, 30} {
			l, e := poly.Roots(p, bits)
			if e != api.OK || len(l) != all {
				t.Fatalf("Roots(%s, %d) = %s, %d, want %d", text(p), bits, spanTexts(l), e, all)
			}
			for i, a := range l {
				n, e := poly.Count(p, a.Lo, a.Hi)
				if value.Cmp(a.Lo, a.Hi) == 0 {
					n = 1 - value.Sign(value.Abs(poly.Eval(p, a.Lo)))
				} else if value.Sign(poly.Eval(p, a.Lo)) == 0 || value.Sign(poly.Eval(p, a.Hi)) == 0 {
					t.Fatalf("Roots(%s, %d): an end of %s is a root", text(p), bits, spanText(a))
				}
				if n != 1 || e != api.OK || value.Cmp(value.SpanWidth(a), twoTo(-bits)) > 0 {
					t.Fatalf("Roots(%s, %d): %s has %d roots", text(p), bits, spanText(a), n)
				}
				if i > 0 && value.Cmp(l[i-1].Hi, a.Lo) > 0 || before != nil && !inside(a, before[i]) {
					t.Fatalf("Roots(%s, %d) = %s, with less bits %s", text(p), bits, spanTexts(l), spanTexts(before))
				}
			}
			before = l
		}
	}
}

func TestP2_13Signs(t *testing.T) {
	g := newNumbers()
	for range 300 {
		p, a := g.nonzero(6), value.Span{Lo: g.num(), Hi: g.num()}
		lo, hi := value.Min(a.Lo, a.Hi), value.Max(a.Lo, a.Hi)
		roots, _ := poly.Count(p, lo, hi)
		if value.Sign(poly.Eval(p, lo)) == 0 {
			roots++
		}
		sign, e := poly.Positive(p, a)
		if e != api.OK || (sign == 0) != (roots > 0) {
			t.Fatalf("Positive(%s, %s) = %d, %d, with %d roots", text(p), spanText(a), sign, e, roots)
		}
		for _, x := range []value.Num{lo, hi, value.SpanMid(a), value.Add(lo, value.Mul(value.Sub(hi, lo), ratio(1, 5)))} {
			if sign != 0 && value.Sign(poly.Eval(p, x)) != sign {
				t.Fatalf("Positive(%s, %s) = %d", text(p), spanText(a), sign)
			}
		}
		q := g.nonzero(5)
		if g.below(2) == 0 {
			q = poly.Mul(q, p)
		}
		atRoot, e := poly.SignAt(p, a, q)
		if (e == api.OK) != (roots == 1) || e != api.OK && e != api.ErrRange {
			t.Fatalf("SignAt(%s, %s, %s): %d, with %d roots", text(p), spanText(a), text(q), e, roots)
		}
		if e == api.OK {
			common, _ := poly.Gcd(p, q)
			shared, _ := poly.Positive(common, a)
			if (atRoot == 0) != (shared == 0) {
				t.Fatalf("SignAt(%s, %s, %s) = %d, with the common divisor %s", text(p), spanText(a), text(q), atRoot, text(common))
			}
		}
	}
}
