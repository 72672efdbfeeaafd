package filter

import (
	"math"

	"pentode/api"
	"pentode/poly"
	"pentode/value"
)

// patience is how often a span is halved until multiple roots are looked for: without them so many halvings are seldom needed.
const patience = 100

// Nonneg reports whether a polynomial is nowhere below 0 in a span.
func Nonneg(p []value.Num, a value.Span) (bool, api.Errno) {
	if isLong(p) {
		return false, api.ErrLong
	}
	return areNonneg(a, p), api.OK
}

// areNonneg is Nonneg for several polynomials.
func areNonneg(a value.Span, polynomials ...[]value.Num) bool {
	_, o := cellOf(a, polynomials...).firstBelow(patience)
	if o == unsure {
		// Around a root at which a polynomial touches 0, halving might not end.
		var simple [][]value.Num
		for _, p := range polynomials {
			simple = append(simple, oddPart(p))
		}
		_, o = cellOf(a, simple...).firstBelow(math.MaxInt)
	}
	return o == nowhere
}

// oddPart has the signs of p, but at some of its roots: it is 0 at the roots with an odd multiplicity alone, each of which it has once.
func oddPart(p []value.Num) []value.Num {
	if poly.Deg(p) < 0 {
		return nil
	}
	odd := []value.Num{value.Int(int64(value.Sign(highest(p))))}
	parts, _ := poly.Parts(p)
	for i, part := range parts {
		if i%2 == 0 {
			odd = poly.Mul(odd, part)
		}
	}
	return odd
}
