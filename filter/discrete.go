package filter

import (
	"pentode/api"
	"pentode/poly"
	"pentode/value"
)

// Bilinear returns the polynomial of a filter in discrete time.
func Bilinear(p []value.Num, n int, t value.Num) ([]value.Num, api.Errno) {
	if e := checkedTransform(p, n, t); e != api.OK {
		return nil, e
	}
	rate := over(value.Int(2), t)
	down := []value.Num{value.Neg(rate), rate}
	return composed(p, n, down, []value.Num{value.Int(1), value.Int(1)}), api.OK
}

// Back goes back to continuous time.
func Back(q []value.Num, n int, t value.Num) ([]value.Num, api.Errno) {
	if e := checkedTransform(q, n, t); e != api.OK {
		return nil, e
	}
	half := over(t, value.Int(2))
	return between(q, n, half), api.OK
}

// checkedTransform returns the errors of both transforms.
func checkedTransform(p []value.Num, n int, t value.Num) api.Errno {
	switch {
	case isLong(p):
		return api.ErrLong
	case n < 0 || n < poly.Deg(p) || n > api.MaxDeg || !isAbove0(t):
		return api.ErrRange
	}
	return api.OK
}

// between is q, of at most the degree n, for the quotient of 1 + h s and 1 - h s in place of z, times 1 - h s to the power n.
func between(q []value.Num, n int, h value.Num) []value.Num {
	one := value.Int(1)
	return composed(q, n, []value.Num{one, h}, []value.Num{one, value.Neg(h)})
}

// Schur counts the roots inside, on and outside of the unit circle.
func Schur(q []value.Num) (inside, on, outside int, e api.Errno) {
	if e := checked(q); e != api.OK {
		return 0, 0, 0, e
	}
	// The imaginary axis is the unit circle but for the root -1, which has no place on it: so the degree is less by its multiplicity.
	n := poly.Deg(q)
	p := between(whole(q), n, value.Int(1))
	outside, axis, _ := poly.Routh(p)
	on = axis + n - poly.Deg(p)
	return n - on - outside, on, outside, api.OK
}
