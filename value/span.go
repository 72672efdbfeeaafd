package value

import "pentode/api"

// Span is the numbers between two ends.
type Span struct{ Lo, Hi Num }

// ordered is the span with its ends in order, with their words.
func (a Span) ordered() Span {
	if Cmp(a.Lo, a.Hi) > 0 {
		return Span{a.Hi, a.Lo}
	}
	return a
}

// opposite is the span of the negative numbers, with the words of a.
func (a Span) opposite() Span {
	return Span{a.Hi.opposite(), a.Lo.opposite()}
}

// copied is a with words of its own.
func (a Span) copied() Span {
	return Span{a.Lo.copied(), a.Hi.copied()}
}

// Point returns the span of one number.
func Point(x Num) Span {
	return Span{x, x}.copied()
}

// SpanOf returns the span of a range.
func SpanOf(r api.Range) (Span, api.Errno) {
	lo, e := Parse(r.Lo)
	if e != api.OK {
		return Span{}, e
	}
	hi, e := Parse(r.Hi)
	if e != api.OK {
		return Span{}, e
	}
	if Cmp(lo, hi) > 0 {
		return Span{}, api.ErrRange
	}
	return Span{lo, hi}, api.OK
}

// SpanText returns the range of a span.
func SpanText(a Span) api.Range {
	a = a.ordered()
	return api.Range{Lo: Text(a.Lo), Hi: Text(a.Hi)}
}

// SpanAdd returns the sums.
func SpanAdd(a, b Span) Span {
	a, b = a.ordered(), b.ordered()
	return Span{Add(a.Lo, b.Lo), Add(a.Hi, b.Hi)}
}

// SpanSub returns the differences.
func SpanSub(a, b Span) Span {
	a, b = a.ordered(), b.ordered()
	return Span{Sub(a.Lo, b.Hi), Sub(a.Hi, b.Lo)}
}

// SpanMul returns the products.
func SpanMul(a, b Span) Span {
	return product(a.ordered(), b.ordered())
}

// product multiplies spans with their ends in order.
func product(a, b Span) Span {
	switch {
	case a.Lo.below && !a.Hi.below && b.Lo.below && !b.Hi.below:
		return Span{
			lesser(Mul(a.Lo, b.Hi), Mul(a.Hi, b.Lo)),
			greater(Mul(a.Lo, b.Lo), Mul(a.Hi, b.Hi)),
		}
	case a.Hi.below:
		return product(a.opposite(), b).opposite()
	case a.Lo.below:
		return product(b, a)
	}
	// No number of a is below 0: so the greater ones of a are those that take an end of b farther from 0.
	lo, hi := a.Lo, a.Hi
	if b.Lo.below {
		lo = a.Hi
	}
	if b.Hi.below {
		hi = a.Lo
	}
	return Span{Mul(lo, b.Lo), Mul(hi, b.Hi)}
}

// SpanDiv returns the quotients.
func SpanDiv(a, b Span) (Span, api.Errno) {
	b = b.ordered()
	if contains(b, Num{}) {
		return Span{}, api.ErrZero
	}
	return product(a.ordered(), Span{b.Hi.inverse(), b.Lo.inverse()}), api.OK
}

// SpanNeg returns the negative numbers.
func SpanNeg(a Span) Span {
	return a.ordered().opposite().copied()
}

// SpanPow returns the powers.
func SpanPow(a Span, n int) Span {
	a = a.ordered()
	n = min(max(n, 0), api.MaxPow)
	lo, hi := power(a.Lo, n), power(a.Hi, n)
	switch {
	case n == 0 || n%2 == 1 || !a.Lo.below:
		return Span{lo, hi}
	case a.Hi.below:
		return Span{hi, lo}
	}
	return Span{Num{}, greater(lo, hi)}
}

// SpanJoin returns the least span that contains both.
func SpanJoin(a, b Span) Span {
	a, b = a.ordered(), b.ordered()
	return Span{lesser(a.Lo, b.Lo), greater(a.Hi, b.Hi)}.copied()
}

// SpanMeet returns what both contain.
func SpanMeet(a, b Span) (Span, bool) {
	a, b = a.ordered(), b.ordered()
	meet := Span{greater(a.Lo, b.Lo), lesser(a.Hi, b.Hi)}
	if Cmp(meet.Lo, meet.Hi) > 0 {
		return Span{}, false
	}
	return meet.copied(), true
}

// SpanHas reports whether a number is in a span.
func SpanHas(a Span, x Num) bool {
	return contains(a.ordered(), x)
}

// contains is SpanHas for a span with its ends in order.
func contains(a Span, x Num) bool {
	return Cmp(a.Lo, x) <= 0 && Cmp(x, a.Hi) <= 0
}

// SpanOut rounds outward.
func SpanOut(a Span, bits int) Span {
	a = a.ordered()
	return Span{Down(a.Lo, bits), Up(a.Hi, bits)}
}

// SpanMid returns the middle.
func SpanMid(a Span) Num {
	return Mul(Add(a.Lo, a.Hi), fraction(false, word(1), word(2)))
}

// SpanWidth returns the width.
func SpanWidth(a Span) Num {
	return Sub(a.Hi, a.Lo).size()
}
