package points

import (
	"pentode/api"
	"pentode/value"
)

// tooFar is how many digits ends of a box may have on the way.
//
// Ends with more than MaxDigits digits are very close to 0, as they have few bits. They may have twice as many digits after each
// round, and come from both sides to an operating point at 0 without ever reaching it: so, when there are
// that many more, nothing but ErrLong can be the result, and 60 rounds would need more memory than there is.
const tooFar = 100 * api.MaxDigits

// Narrow returns a smaller box with the same operating points.
func Narrow(n api.Net, box []api.Range, bits, rounds int) ([]api.Range, api.Errno) {
	c, e := circuitFor(n, len(box))
	if e != api.OK {
		return nil, e
	}
	x, e := spansOf(box)
	if e != api.OK {
		return nil, e
	}
	if !isBits(bits) || rounds < 0 || rounds > api.MaxRounds {
		return nil, api.ErrRange
	}
	for range rounds {
		l, ok := c.look(x, bits)
		if !ok {
			break
		}
		meet, some := common(x, l.image)
		if !some {
			return nil, ErrFault
		}
		b := outward(meet, x, bits)
		if sameBox(x, b) {
			break
		}
		x = b
		if isFar(x) {
			return nil, api.ErrLong
		}
	}
	if anyLong(ends(x)) {
		return nil, api.ErrLong
	}
	return ranges(x), api.OK
}

// sameBox returns whether two boxes are equal.
func sameBox(x, b []value.Span) bool {
	return contains(x, b) && contains(b, x)
}

// isFar returns whether an end of a box has too many digits.
func isFar(x []value.Span) bool {
	for _, end := range ends(x) {
		if value.Digits(end) > tooFar {
			return true
		}
	}
	return false
}
