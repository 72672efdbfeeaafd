package poly

import (
	"pentode/api"
	"pentode/value"
)

// mostHalvings is how many halvings are done at once at most.
const mostHalvings = 1000

// search narrows a cell of f that has one root above lo, up to hi, and the values valLo and valHi there.
type search struct {
	f            []value.Num
	lo, hi       value.Num
	valLo, valHi value.Num
	left         int
}

// narrowed is the span of the root of a cell that has one: where halving ends.
func narrowed(f []value.Num, c cell) value.Span {
	s := search{f, c.lo, c.hi, Eval(f, c.lo), Eval(f, c.hi), c.left}
	for halvings := 1; !s.done(); {
		halvings = s.step(halvings)
	}
	if value.Sign(s.valHi) == 0 {
		return value.Point(s.hi)
	}
	found := value.Span{Lo: s.lo, Hi: s.hi}
	return value.SpanJoin(found, found) // with memory of its own
}

// step tries to halve so many times at once, and returns how many times to try next: twice as many if it was done,
// otherwise half as many (Abbott). So the bits of a root are soon doubled by each step.
func (s *search) step(halvings int) int {
	n := min(halvings, s.left, mostHalvings)
	switch {
	case n < 2 || value.Sign(s.valLo) == 0:
		s.halve()
		return 2
	case s.leap(n):
		return 2 * n
	}
	return n / 2
}

// done reports whether hi is the root, which halving does not change, or the cell is narrow enough and lo is no root.
func (s *search) done() bool {
	return value.Sign(s.valHi) == 0 || s.left <= 0 && value.Sign(s.valLo) != 0
}

// reached reports whether a value is that at the root, or at a number of the cell above it.
func (s *search) reached(val value.Num) bool {
	return value.Sign(val) != -value.Sign(s.valHi)
}

// halve keeps the half that has the root.
func (s *search) halve() {
	mid := value.SpanMid(value.Span{Lo: s.lo, Hi: s.hi})
	if val := Eval(s.f, mid); s.reached(val) {
		s.hi, s.valHi = mid, val
	} else {
		s.lo, s.valLo = mid, val
	}
	s.left--
}

// leap halves n times, if the root is in one of the two parts of the cell beside the guess, and reports whether it did.
func (s *search) leap(n int) bool {
	parts := twoTo(n)
	width := over(value.Sub(s.hi, s.lo), parts)
	lo := value.Add(s.lo, value.Mul(s.guess(parts, n), width))
	hi, valLo := lo, Eval(s.f, lo)
	valHi := valLo
	if s.reached(valLo) {
		lo = value.Sub(lo, width)
		valLo = Eval(s.f, lo)
	} else {
		hi = value.Add(hi, width)
		valHi = Eval(s.f, hi)
	}
	if s.reached(valLo) || !s.reached(valHi) {
		return false
	}
	s.lo, s.hi, s.valLo, s.valHi = lo, hi, valLo, valHi
	s.left -= n
	return true
}

// guess is the end of a part, of 2^n ones, next to where the line between the values is 0, but no end of the cell.
func (s *search) guess(parts value.Num, n int) value.Num {
	// The values may be very long: for a guess they are needed to some more bits than it has.
	low, high := value.Down(value.Abs(s.valLo), n+8), value.Down(value.Abs(s.valHi), n+8)
	share := over(low, value.Add(low, high))
	half := over(value.Int(1), value.Int(2))
	nearest := value.Floor(value.Add(value.Mul(parts, share), half))
	return value.Max(value.Int(1), value.Min(nearest, value.Sub(parts, value.Int(1))))
}

// twoTo is 2 to the power n, which may be beyond the limit of value.Pow.
func twoTo(n int) value.Num {
	z := value.Int(1)
	for ; n > 0; n -= api.MaxPow {
		z = value.Mul(z, power(value.Int(2), min(n, api.MaxPow)))
	}
	return z
}
