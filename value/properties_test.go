package value_test

import (
	"math"
	"math/big"
	"strings"
	"sync"
	"testing"

	"pentode/api"
	"pentode/value"
)

// some are numbers of many kinds.
func some(t testing.TB, many int) []value.Num {
	t.Helper()
	var l []value.Num
	for _, s := range edges() {
		l = append(l, parse(t, s))
	}
	g := newNumbers()
	for i := range many {
		l = append(l, numOf(t, g.rat(1+7*i%260)))
	}
	return l
}

// someSpans have ends in any order.
func someSpans(t testing.TB) []value.Span {
	t.Helper()
	l := some(t, 12)
	var spans []value.Span
	for i := range l {
		spans = append(spans, value.Span{Lo: l[i], Hi: l[(7*i+3)%len(l)]})
	}
	return append(spans, span(t, "0", "0"), span(t, "0", "1"), span(t, "0", "-1"), span(t, "5", "5"), span(t, "-1", "1"))
}

// same reports whether two numbers are equal by their order and by their texts.
func same(t testing.TB, x, y value.Num) bool {
	t.Helper()
	equal := value.Cmp(x, y) == 0
	if equal != (text(x) == text(y)) || equal != (value.Show(x) == value.Show(y)) {
		t.Fatalf("Cmp of %s and %s = %d, Show = %s, %s", text(x), text(y), value.Cmp(x, y), value.Show(x), value.Show(y))
	}
	return equal
}

func TestP1_7Field(t *testing.T) {
	l := some(t, 15)
	for _, x := range l {
		for _, y := range l {
			if !same(t, value.Add(x, y), value.Add(y, x)) || !same(t, value.Mul(x, y), value.Mul(y, x)) {
				t.Fatalf("%s and %s do not commute", text(x), text(y))
			}
			if !same(t, value.Sub(value.Add(x, y), y), x) {
				t.Fatalf("Sub does not undo Add of %s and %s", text(x), text(y))
			}
			if q, e := value.Div(value.Mul(x, y), y); value.Sign(y) != 0 && (e != api.OK || !same(t, q, x)) {
				t.Fatalf("Div does not undo Mul of %s and %s", text(x), text(y))
			}
			for i := 0; i < len(l); i += 5 {
				z := l[i]
				if !same(t, value.Add(value.Add(x, y), z), value.Add(x, value.Add(y, z))) || !same(t, value.Mul(value.Mul(x, y), z), value.Mul(x, value.Mul(y, z))) {
					t.Fatalf("%s, %s and %s do not associate", text(x), text(y), text(z))
				}
				if !same(t, value.Mul(value.Add(x, y), z), value.Add(value.Mul(x, z), value.Mul(y, z))) {
					t.Fatalf("the product of %s and %s by %s does not distribute", text(x), text(y), text(z))
				}
			}
		}
	}
}

func TestP1_8Order(t *testing.T) {
	l := some(t, 15)
	for _, x := range l {
		for _, y := range l {
			c := value.Cmp(x, y)
			if c != -value.Cmp(y, x) || c != value.Sign(value.Sub(x, y)) || c < -1 || c > 1 {
				t.Fatalf("Cmp(%s, %s) = %d", text(x), text(y), c)
			}
			for _, z := range l {
				if c <= 0 && value.Cmp(y, z) <= 0 && value.Cmp(x, z) > 0 {
					t.Fatalf("%s, %s and %s are not in order", text(x), text(y), text(z))
				}
				if value.Cmp(value.Add(x, z), value.Add(y, z)) != c {
					t.Fatalf("adding %s to %s and %s", text(z), text(x), text(y))
				}
				if value.Sign(z) > 0 && value.Cmp(value.Mul(x, z), value.Mul(y, z)) != c {
					t.Fatalf("multiplying %s and %s by %s", text(x), text(y), text(z))
				}
			}
		}
	}
}

func TestP1_9Texts(t *testing.T) {
	l := some(t, 100)
	for i, x := range l {
		for j, y := range l {
			if same(t, x, y) && i != j && text(x) != text(y) {
				t.Fatalf("%s and %s are the same", text(x), text(y))
			}
		}
		if y, e := value.Parse(value.Text(x)); e != api.OK || !same(t, x, y) {
			t.Fatalf("Parse of the text of %s = %s, %d", text(x), text(y), e)
		}
		if y, e := value.Read(value.Show(x)); e != api.OK || !same(t, x, y) {
			t.Fatalf("Read of %s = %s, %d", value.Show(x), text(y), e)
		}
	}
	// Short forms of numbers that are too long for a Val are read, too; the longest one has 400 digits.
	x := parse(t, strings.Repeat("9", 400))
	for range 12 {
		x = value.Mul(x, value.Int(10))
	}
	if y, e := value.Read(value.Show(x)); e != api.OK || !same(t, x, y) {
		t.Errorf("Read of a short form of 400 digits = %d", e)
	}
	long := integerOf(t, new(big.Int).Lsh(big.NewInt(1), 4000))
	if y, e := value.Read(value.Show(long)); e != api.ErrLong || text(y) != "0" {
		t.Errorf("Read of a number with %d digits = %d", value.Digits(long), e)
	}
}

// fewBits reports whether r has at most so many bits.
func fewBits(r *big.Rat, bits int) bool {
	bottom := new(big.Int).Sub(r.Denom(), big.NewInt(1))
	if bottom.And(bottom, r.Denom()).Sign() != 0 {
		return false
	}
	top := new(big.Int).Abs(r.Num())
	return top.Rsh(top, top.TrailingZeroBits()).BitLen() <= bits
}

func TestP1_10Rounding(t *testing.T) {
	for _, x := range some(t, 60) {
		lastDown, lastUp := value.Down(x, 1), value.Up(x, 1)
		for bits := 1; bits < 150; bits += 1 + bits/9 {
			down, up := value.Down(x, bits), value.Up(x, bits)
			if value.Cmp(down, x) > 0 || value.Cmp(up, x) < 0 {
				t.Fatalf("Down, Up of %s, %d bits = %s, %s", text(x), bits, text(down), text(up))
			}
			if !fewBits(ratOf(t, down), bits) || !fewBits(ratOf(t, up), bits) {
				t.Fatalf("%s or %s has more than %d bits", text(down), text(up), bits)
			}
			few := fewBits(ratOf(t, x), bits)
			if same(t, down, x) != few || same(t, up, x) != few {
				t.Fatalf("Down, Up of %s, %d bits = %s, %s", text(x), bits, text(down), text(up))
			}
			// Nothing between both: the middle rounds to them.
			middle := value.SpanMid(value.Span{Lo: down, Hi: up})
			if !same(t, value.Down(middle, bits), down) || !same(t, value.Up(middle, bits), up) {
				t.Fatalf("there are numbers of %d bits between %s and %s", bits, text(down), text(up))
			}
			if value.Cmp(down, lastDown) < 0 || value.Cmp(up, lastUp) > 0 {
				t.Fatalf("%d bits are farther from %s than fewer ones", bits, text(x))
			}
			lastDown, lastUp = down, up
		}
	}
}

// inside are some numbers of a span, the ends first.
func inside(t testing.TB, a value.Span) []value.Num {
	t.Helper()
	l := []value.Num{a.Lo, a.Hi}
	for _, s := range []string{"1/2", "1/3", "9/10"} {
		l = append(l, value.Add(a.Lo, value.Mul(value.Sub(a.Hi, a.Lo), parse(t, s))))
	}
	if value.SpanHas(a, value.Int(0)) {
		l = append(l, value.Int(0))
	}
	return l
}

// spanResults are results of spans, and what makes the results of numbers; nil where there is none.
func spanResults(a, b value.Span) ([]value.Span, []func(x, y value.Num) value.Num) {
	spans := []value.Span{value.SpanAdd(a, b), value.SpanSub(a, b), value.SpanMul(a, b), value.SpanNeg(a), value.SpanPow(a, 2), value.SpanPow(a, 3), value.SpanPow(a, 6)}
	power := func(n int) func(x, _ value.Num) value.Num {
		return func(x, _ value.Num) value.Num {
			p, _ := value.Pow(x, n)
			return p
		}
	}
	results := []func(x, y value.Num) value.Num{value.Add, value.Sub, value.Mul, func(x, _ value.Num) value.Num { return value.Neg(x) }, power(2), power(3), power(6)}
	if q, e := value.SpanDiv(a, b); e == api.OK {
		spans = append(spans, q)
		results = append(results, func(x, y value.Num) value.Num {
			z, _ := value.Div(x, y)
			return z
		})
	}
	return spans, results
}

func TestP1_11SpanResults(t *testing.T) {
	l := someSpans(t)
	for i, a := range l {
		for j := i % 3; j < len(l); j += 3 {
			b := l[j]
			spans, results := spanResults(a, b)
			for k, s := range spans {
				if value.Cmp(s.Lo, s.Hi) > 0 {
					t.Fatalf("result %d of %s and %s is %s", k, spanText(a), spanText(b), spanText(s))
				}
				lo, hi := false, false
				for _, x := range inside(t, a) {
					for _, y := range inside(t, b) {
						r := results[k](x, y)
						if !value.SpanHas(s, r) {
							t.Fatalf("result %d of %s and %s is not in %s", k, text(x), text(y), spanText(s))
						}
						lo, hi = lo || value.Cmp(r, s.Lo) == 0, hi || value.Cmp(r, s.Hi) == 0
					}
				}
				if !lo || !hi {
					t.Fatalf("an end of %s is no result %d of numbers of %s and %s", spanText(s), k, spanText(a), spanText(b))
				}
			}
		}
	}
}

func TestP1_11SmallerSpans(t *testing.T) {
	within := func(a, b value.Span) bool { return value.SpanHas(b, a.Lo) && value.SpanHas(b, a.Hi) }
	l := someSpans(t)
	for i, a := range l {
		b := l[(5*i+2)%len(l)]
		numbersA, numbersB := inside(t, a), inside(t, b)
		small, other := value.Span{Lo: numbersA[2], Hi: numbersA[3]}, value.Span{Lo: numbersB[1], Hi: numbersB[4]}
		greater, _ := spanResults(a, b)
		smaller, _ := spanResults(small, other)
		for k, s := range greater {
			if !within(smaller[k], s) {
				t.Fatalf("result %d: %s is not in %s", k, spanText(smaller[k]), spanText(s))
			}
		}
		if !within(value.SpanJoin(small, other), value.SpanJoin(a, b)) || !within(value.SpanOut(small, 9), value.SpanOut(a, 9)) {
			t.Fatalf("SpanJoin, SpanOut of %s and %s", spanText(small), spanText(a))
		}
		if m, is := value.SpanMeet(small, other); is {
			if n, is := value.SpanMeet(a, b); !is || !within(m, n) {
				t.Fatalf("SpanMeet: %s is not in %s", spanText(m), spanText(n))
			}
		}
	}
}

// callAll calls each function that takes numbers.
func callAll(x, y value.Num, n int) {
	a, b := value.Span{Lo: x, Hi: y}, value.Span{Lo: y, Hi: value.Int(int64(n))}
	value.Parse(value.Text(x))
	value.Read(value.Show(x))
	value.Digits(x)
	value.Add(x, y)
	value.Sub(x, y)
	value.Mul(x, y)
	value.Div(x, y)
	value.Neg(x)
	value.Abs(x)
	value.Sign(x)
	value.Cmp(x, y)
	value.Min(x, y)
	value.Max(x, y)
	value.Pow(x, n)
	value.Down(x, n)
	value.Up(x, n)
	value.Floor(x)
	value.Ceil(x)
	value.Ratio(int64(n), int64(-n))
	value.Point(x)
	value.SpanOf(value.SpanText(a))
	value.SpanAdd(a, b)
	value.SpanSub(a, b)
	value.SpanMul(a, b)
	value.SpanDiv(a, b)
	value.SpanNeg(a)
	value.SpanPow(a, n)
	value.SpanJoin(a, b)
	value.SpanMeet(a, b)
	value.SpanHas(a, y)
	value.SpanOut(a, n)
	value.SpanMid(a)
	value.SpanWidth(a)
}

func TestP1_12AnyArguments(t *testing.T) {
	l := some(t, 20)
	var texts []string
	for _, x := range l {
		texts = append(texts, text(x))
	}
	// Numbers are shared by goroutines as well: what changes one of them is found by the race detector, too.
	var group sync.WaitGroup
	for _, n := range []int{math.MinInt, -65, -3, 0, 1, 5, 64, 65, 2001, math.MaxInt} {
		group.Go(func() {
			for i, x := range l {
				for j := i % 5; j < len(l); j += 5 {
					callAll(x, l[j], n)
				}
			}
		})
	}
	group.Wait()
	for i, x := range l {
		if text(x) != texts[i] {
			t.Errorf("%s was changed to %s", texts[i], text(x))
		}
	}
	var zero value.Span
	callAll(zero.Lo, zero.Hi, 0)
	for _, s := range []string{"", "/", "-", ".", "k", "-/", "\x00", "\xff\xfe", strings.Repeat("-", 5000), strings.Repeat("/", 5000), strings.Repeat("0", 100000), strings.Repeat("9", 100000)} {
		if value.Check(api.Val(s)) == api.OK {
			t.Errorf("Check(%.10q) = OK", s)
		}
		if _, e := value.Read(s); e == api.OK {
			t.Errorf("Read(%.10q) = OK", s)
		}
	}
}

func TestP1_12ResultsStay(t *testing.T) {
	// A result does not change when more is computed with it, or with what it was made from.
	x, y := parse(t, "-340282366920938463463374607431768211457/18446744073709551616"), parse(t, "7/3")
	results := []value.Num{value.Neg(x), value.Abs(x), value.Min(x, y), value.Max(x, y), value.Add(x, value.Int(0)), value.Mul(x, value.Int(1)), value.Down(x, 2000), value.Up(x, 2000), value.Floor(x), value.Point(x).Lo, value.SpanJoin(value.Point(x), value.Point(y)).Hi}
	var texts []string
	for _, r := range results {
		texts = append(texts, text(r))
	}
	for i := range results {
		callAll(results[i], x, i)
		callAll(y, results[i], -i)
	}
	for i, r := range results {
		if text(r) != texts[i] {
			t.Errorf("%s became %s", texts[i], text(r))
		}
	}
}
