package poly

import (
	"pentode/api"
	"pentode/value"
)

// line is f at the numbers x + i y, where x and y are polynomials of what tells the number: its real part, and the
// factor of i.
func line(f, x, y []value.Num) (re, im []value.Num) {
	for k := Deg(f); k >= 0; k-- {
		re, im = Sub(Mul(x, re), Mul(y, im)), Add(Mul(x, im), Mul(y, re))
		re = Add(re, f[k:k+1])
	}
	return re, im
}

// Routh counts the roots to the right of the imaginary axis, and those on it.
func Routh(p []value.Num) (right, axis int, e api.Errno) {
	if e := checked(p); e != api.OK {
		return 0, 0, e
	}
	// Up the axis, p turns half a turn to the left for each root to the left of it, and half a turn to the right for each
	// one to the right: the quotient of its parts jumps down, and up. What both parts have in common are the roots on the
	// axis, and those with a counterpart on the other side.
	f, g := line(whole(p), nil, []value.Num{value.Int(0), value.Int(1)})
	if Deg(f) < Deg(g) {
		f, g = g, Scale(f, value.Int(-1))
	}
	jumps, shared := index(f, g, farBelow, farAbove)
	axis = realRoots(shared)
	pairs := (Deg(shared) - axis) / 2
	return (Deg(p)-Deg(shared)+jumps)/2 + pairs, axis, api.OK
}

// realRoots is how many real roots f, which is not 0, has, each as often as its multiplicity says.
func realRoots(f []value.Num) int {
	n := 0
	parts, _ := Parts(f)
	for i, part := range parts {
		n += (i + 1) * countRoots(sturm(part), farBelow, farAbove)
	}
	return n
}

// Rect counts the roots in a rectangle of the complex plane.
func Rect(p []value.Num, re, im value.Span) (int, api.Errno) {
	if e := checked(p); e != api.OK {
		return 0, e
	}
	if value.Sign(value.SpanWidth(re)) == 0 || value.Sign(value.SpanWidth(im)) == 0 {
		return 0, api.ErrRange
	}
	// Around the rectangle, p turns once around 0 for each root in it.
	quarters := 0
	for _, side := range sides(p, re, im) {
		n, e := side.turns()
		if e != api.OK {
			return 0, e
		}
		quarters += n
	}
	return quarters / 4, api.OK
}

// sides are p along the sides of a rectangle, around it to the left.
func sides(p []value.Num, re, im value.Span) []side {
	re, im = value.SpanJoin(re, re), value.SpanJoin(im, im) // with their ends in order
	stretch := multiplier([]value.Num{re.Lo, re.Hi, im.Lo, im.Hi})
	f := whole(stretched(p, stretch))
	x0, x1 := value.Mul(re.Lo, stretch), value.Mul(re.Hi, stretch)
	y0, y1 := value.Mul(im.Lo, stretch), value.Mul(im.Hi, stretch)
	along := func(x, y, nextX, nextY value.Num) side {
		re, im := line(f, []value.Num{x, value.Sub(nextX, x)}, []value.Num{y, value.Sub(nextY, y)})
		return side{re, im}
	}
	return []side{along(x0, y0, x1, y0), along(x1, y0, x1, y1), along(x1, y1, x0, y1), along(x0, y1, x0, y0)}
}

// stretched is a polynomial whose roots are those of p times x, which is not 0.
func stretched(p []value.Num, x value.Num) []value.Num {
	p = cut(p)
	result := make([]value.Num, len(p))
	factor := value.Int(1)
	for i := len(p) - 1; i >= 0; i-- {
		result[i] = value.Mul(p[i], factor)
		factor = value.Mul(factor, x)
	}
	return result
}
