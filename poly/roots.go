package poly

import (
	"pentode/api"
	"pentode/value"
)

// Bound returns a number beyond all roots.
func Bound(p []value.Num) (value.Num, api.Errno) {
	if e := checked(p); e != api.OK {
		return value.Num{}, e
	}
	n := Deg(p)
	var most value.Num
	for _, c := range p[:n] {
		most = value.Max(most, value.Abs(over(c, p[n])))
	}
	return value.Add(most, value.Int(1)), api.OK
}

// Count counts the real roots above a number, up to another one.
func Count(p []value.Num, lo, hi value.Num) (int, api.Errno) {
	if e := checked(p); e != api.OK {
		return 0, e
	}
	if value.Cmp(lo, hi) > 0 {
		return 0, api.ErrRange
	}
	return countRoots(sturm(p), at(lo), at(hi)), api.OK
}

// countRoots counts, by a chain of sturm, the real roots above lo, up to hi.
func countRoots(chain [][]value.Num, lo, hi look) int {
	return changesAt(chain, lo) - changesAt(chain, hi)
}

// cell is a span that halving leads to: its ends, how often signs change along Sturm's chain at each of them, and how
// often it has to be halved until it is narrow enough.
type cell struct {
	lo, hi     value.Num
	atLo, atHi int
	left       int
}

// Roots returns a span for each real root.
func Roots(p []value.Num, bits int) ([]value.Span, api.Errno) {
	bound, e := Bound(p)
	if e != api.OK {
		return nil, e
	}
	chain := sturm(p)
	stack := []cell{firstCell(chain, bound, min(max(bits, 0), api.MaxRootBits))}
	var found []value.Span
cells:
	for len(stack) > 0 {
		top := len(stack) - 1
		c := stack[top]
		stack = stack[:top]
		switch c.atLo - c.atHi {
		case 0:
			continue cells
		case 1:
			found = append(found, narrowed(chain[0], c))
			continue cells
		}
		mid := value.SpanMid(value.Span{Lo: c.lo, Hi: c.hi})
		atMid := changesAt(chain, at(mid))
		stack = append(stack, cell{mid, c.hi, atMid, c.atHi, c.left - 1}, cell{c.lo, mid, c.atLo, atMid, c.left - 1})
	}
	return found, api.OK
}

// firstCell is the one that has all roots.
func firstCell(chain [][]value.Num, bound value.Num, bits int) cell {
	end, left := value.Int(1), bits+1
	for value.Cmp(end, bound) < 0 {
		end = value.Mul(end, value.Int(2))
		left++
	}
	return cell{value.Neg(end), end, changesAt(chain, farBelow), changesAt(chain, farAbove), left}
}

// SignAt returns the sign of a polynomial at a root of another one.
func SignAt(p []value.Num, a value.Span, q []value.Num) (int, api.Errno) {
	if tooLong(q) {
		return 0, api.ErrLong
	}
	if e := checked(p); e != api.OK {
		return 0, e
	}
	a = value.SpanJoin(a, a) // with its ends in order
	lo, hi := at(a.Lo), at(a.Hi)
	chain := sturm(p)
	f := chain[0]
	roots := countRoots(chain, lo, hi)
	if lo(f) == 0 {
		roots++
	}
	switch {
	case roots != 1:
		return 0, api.ErrRange
	case lo(f) == 0:
		return lo(q), api.OK
	case hi(f) == 0:
		return hi(q), api.OK
	}
	// At a root, the derivative divided by f jumps up: times q, it does so as the sign of q says.
	sign, _ := index(f, Mul(Deriv(f), q), lo, hi)
	return sign, api.OK
}

// signs are those at both ends of a span, or of both parts of a complex number.
type signs [2]int

// Positive returns the sign that a polynomial has everywhere in a span.
func Positive(p []value.Num, a value.Span) (int, api.Errno) {
	if tooLong(p) {
		return 0, api.ErrLong
	}
	a = value.SpanJoin(a, a) // with its ends in order
	lo, hi := at(a.Lo), at(a.Hi)
	ends := signs{lo(p), hi(p)}
	if ends != (signs{1, 1}) && ends != (signs{-1, -1}) {
		return 0, api.OK
	}
	if roots, _ := index(p, Deriv(p), lo, hi); roots > 0 {
		return 0, api.OK
	}
	return ends[0], api.OK
}
