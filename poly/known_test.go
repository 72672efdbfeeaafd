package poly_test

import (
	"pentode/poly"
	"pentode/value"
)

// root is a real root that the tests know exactly: a number, or the root of a number that is no square, with a sign.
type root struct {
	number value.Num
	square value.Num
	// sign is 0 if the root is the number.
	sign int
}

// from is the sign of x less the root.
func (r root) from(x value.Num) int {
	switch {
	case r.sign == 0:
		return value.Cmp(x, r.number)
	case value.Sign(x) != r.sign:
		return -r.sign
	}
	return r.sign * value.Cmp(value.Mul(x, x), r.square)
}

// signOf is the sign of q at the root.
func (r root) signOf(q []value.Num) int {
	if r.sign == 0 {
		return value.Sign(poly.Eval(q, r.number))
	}
	// q is a + b x there, where the square of x is the number.
	var even, odd []value.Num
	for i, c := range q {
		if i%2 == 0 {
			even = append(even, c)
		} else {
			odd = append(odd, c)
		}
	}
	a, b := poly.Eval(even, r.square), poly.Eval(odd, r.square)
	signA, signB := value.Sign(a), value.Sign(b)*r.sign
	if signA*signB >= 0 {
		return max(min(signA+signB, 1), -1)
	}
	return signA * value.Cmp(value.Mul(a, a), value.Mul(r.square, value.Mul(b, b)))
}

// factor is a polynomial all of whose real roots are known.
type factor struct {
	p     []value.Num
	roots []root
}

func atNumber(x value.Num) factor {
	return factor{withRoot(x), []root{{number: x}}}
}

func atSquareRoots(n int64) factor {
	s := value.Int(n)
	return factor{ints(-n, 0, 1), []root{{square: s, sign: -1}, {square: s, sign: 1}}}
}

func atPair(a, b value.Num) factor {
	return factor{p: withPair(a, b)}
}

// known is a polynomial with its real roots, each once, ascending.
type known struct {
	p     []value.Num
	roots []root
}

// knownOf multiplies factors, each as often as told, and all by a number.
func knownOf(scale value.Num, often []int, factors ...factor) known {
	k := known{p: poly.Scale(ints(1), scale)}
	for i, f := range factors {
		k.p = poly.Mul(k.p, times(f.p, often[i]))
		for _, r := range f.roots {
			k.add(r)
		}
	}
	return k
}

// add puts a root in its place, where it is not there yet. Two roots of numbers that are no squares are compared by
// their squares.
func (k *known) add(r root) {
	at := 0
	for at < len(k.roots) && compared(k.roots[at], r) < 0 {
		at++
	}
	if at < len(k.roots) && compared(k.roots[at], r) == 0 {
		return
	}
	var l []root
	l = append(l, k.roots[:at]...)
	l = append(l, r)
	k.roots = append(l, k.roots[at:]...)
}

// compared is the sign of a less b.
func compared(a, b root) int {
	switch {
	case b.sign == 0:
		return -a.from(b.number)
	case a.sign == 0:
		return b.from(a.number)
	case a.sign != b.sign:
		return a.sign
	}
	return a.sign * value.Cmp(a.square, b.square)
}

// above are the roots above lo, up to hi.
func (k known) above(lo, hi value.Num) []root {
	var l []root
	for _, r := range k.roots {
		if r.from(lo) < 0 && r.from(hi) >= 0 {
			l = append(l, r)
		}
	}
	return l
}

// within are the roots of a span, ends included.
func (k known) within(a value.Span) []root {
	lo, hi := value.Min(a.Lo, a.Hi), value.Max(a.Lo, a.Hi)
	l := k.above(lo, hi)
	for _, r := range k.roots {
		if r.from(lo) == 0 {
			l = append(l, r)
		}
	}
	return l
}

// spans are those of the chapter's definition of Roots, by the roots that are known.
func (k known) spans(lo, hi, width value.Num) []value.Span {
	l := k.above(lo, hi)
	if len(l) == 0 {
		return nil
	}
	lowIsRoot := len(k.within(value.Point(lo))) > 0
	if len(l) == 1 && value.Cmp(value.Sub(hi, lo), width) <= 0 && !lowIsRoot {
		if l[0].from(hi) == 0 {
			return []value.Span{{Lo: hi, Hi: hi}}
		}
		return []value.Span{{Lo: lo, Hi: hi}}
	}
	mid := value.Mul(value.Add(lo, hi), ratio(1, 2))
	return append(k.spans(lo, mid, width), k.spans(mid, hi, width)...)
}

// bound is 1 plus the greatest size of a quotient by the highest coefficient.
func (k known) bound() value.Num {
	most := value.Int(0)
	for _, c := range k.p[:len(k.p)-1] {
		most = value.Max(most, value.Abs(quotient(c, k.p[len(k.p)-1])))
	}
	return value.Add(most, value.Int(1))
}

// expected is what Roots has to return.
func (k known) expected(bits int) []value.Span {
	end := value.Int(1)
	for value.Cmp(end, k.bound()) < 0 {
		end = value.Mul(end, value.Int(2))
	}
	return k.spans(value.Neg(end), end, twoTo(-min(max(bits, 0), 1000)))
}

// someKnown are polynomials of many kinds.
func someKnown() []known {
	n, i := ratio, value.Int
	all := []known{
		knownOf(i(1), nil),
		knownOf(i(-7), nil),
		knownOf(i(1), []int{1}, atNumber(i(0))),
		knownOf(n(-2, 3), []int{3}, atNumber(i(0))),
		knownOf(i(1), []int{1}, atSquareRoots(2)),
		knownOf(i(-5), []int{2}, atSquareRoots(2)),
		knownOf(i(1), []int{1, 1}, atNumber(i(1)), atNumber(i(2))),
		knownOf(i(1), []int{1, 1}, atNumber(i(0)), atNumber(n(3, 2))),
		knownOf(i(3), []int{2, 1, 3}, atNumber(n(1, 3)), atNumber(n(-1, 3)), atNumber(n(1, 7))),
		knownOf(i(1), []int{1, 2, 1}, atSquareRoots(2), atSquareRoots(3), atNumber(n(7, 5))),
		knownOf(i(1), []int{1, 1}, atPair(i(0), i(1)), atPair(i(3), n(1, 9))),
		knownOf(i(-1), []int{2, 1, 1}, atPair(i(1), i(2)), atNumber(i(-4)), atSquareRoots(5)),
		// The second root is near to the first one, which is an end of spans as they are halved.
		knownOf(i(1), []int{1, 1}, atNumber(i(0)), atNumber(n(1, 3<<40))),
		knownOf(i(1), []int{1, 1, 2}, atNumber(n(1, 2)), atNumber(value.Add(n(1, 2), quotient(twoTo(-90), i(3)))), atNumber(value.Sub(n(1, 2), quotient(twoTo(-70), i(3))))),
		// Roots that are ends of narrow spans, and such as are next to them.
		knownOf(i(1), []int{1, 1}, atNumber(n(5, 1024)), atNumber(n(-5, 1<<20))),
		knownOf(i(1), []int{1, 1}, atNumber(value.Add(i(1), twoTo(-200))), atNumber(value.Sub(i(1), twoTo(-201)))),
		// Far roots, and such as have others far from them.
		knownOf(i(1), []int{1, 1}, atNumber(twoTo(300)), atSquareRoots(7)),
		knownOf(i(1), []int{1, 1}, atNumber(value.Neg(quotient(twoTo(100), i(7)))), atNumber(n(1, 5))),
	}
	g := newNumbers()
	for range 60 {
		var often []int
		var l []factor
		for range 1 + g.below(4) {
			often = append(often, 1+g.below(3)/2)
			switch g.below(4) {
			case 0:
				l = append(l, atSquareRoots([]int64{2, 3, 5, 6, 7, 8, 10}[g.below(7)]))
			case 1:
				l = append(l, atPair(g.num(), n(int64(1+g.below(5)), 3)))
			default:
				l = append(l, atNumber(g.num()))
			}
		}
		all = append(all, knownOf(n(int64(2*g.below(2)-1), int64(1+g.below(4))), often, l...))
	}
	return all
}
