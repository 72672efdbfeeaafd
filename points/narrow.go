package points

import (
	"pentode/api"
	"pentode/value"
)

// tooFar is how many digits the ends of a box may have on the way.
//
// An end has few bits, or is one of the box that was asked for: with more than MaxDigits digits it is very close to 0. It may be
// short again in a later round, but only if there is a break of a curve on the way to 0, and all of these have at most MaxDigits
// digits. Without one it may get twice as many digits in each round, so that 60 rounds would need more memory than there
// is: with so many digits that it is beyond all breaks, the result is known to be ErrLong.
const tooFar = 10 * api.MaxDigits

// Narrow returns a smaller box with the same operating points.
func Narrow(n api.Net, box []api.Range, bits, rounds int) ([]api.Range, api.Errno) {
	c, e := circuitFor(n, len(box))
	if e != api.OK {
		return nil, e
	}
	x, e := spansOf(box)
	if e != api.OK {
		return nil, e
	}
	if !isBits(bits) || rounds < 0 || rounds > api.MaxRounds {
		return nil, api.ErrRange
	}
	for range rounds {
		l, ok := c.look(x, bits)
		if !ok {
			break
		}
		meet, some := common(x, l.image)
		if !some {
			return nil, ErrFault
		}
		b := outward(meet, x, bits)
		if contains(b, x) {
			break // both are equal
		}
		x = b
		if isFar(x) {
			return nil, api.ErrLong
		}
	}
	if anyLong(ends(x)) {
		return nil, api.ErrLong
	}
	return ranges(x), api.OK
}

// isFar returns whether an end of a box has too many digits.
func isFar(x []value.Span) bool {
	for _, end := range ends(x) {
		if value.Digits(end) > tooFar {
			return true
		}
	}
	return false
}
