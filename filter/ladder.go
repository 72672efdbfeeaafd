package filter

import (
	"pentode/api"
	"pentode/poly"
	"pentode/value"
)

// Fraction returns the continued fraction of a polynomial's parts.
func Fraction(p []value.Num) ([]value.Num, api.Errno) {
	if e := checked(p); e != api.OK {
		return nil, e
	}
	var numbers []value.Num
	a, b := parts(whole(p))
	// What is computed here is multiples of a and b, so that integers stay integers: each rest is divided by the unit of its a, by
	// which it is certainly divisible, as the entries of all rests are minors of Hurwitz's matrix.
	unitA, unitB := value.Int(1), value.Int(1)
	for range poly.Deg(p) {
		if poly.Deg(b) != poly.Deg(a)-1 {
			return nil, api.ErrForm
		}
		x, y := highest(a), highest(b)
		numbers = append(numbers, over(value.Mul(x, unitB), value.Mul(y, unitA)))
		rest := poly.Sub(poly.Scale(a, y), poly.Mul([]value.Num{value.Int(0), x}, b))
		a, b = b, poly.Scale(rest, over(value.Int(1), unitA))
		unitA, unitB = unitB, y
	}
	return numbers, api.OK
}

// parts are the terms whose powers differ by an even number from the degree, and all others.
func parts(p []value.Num) (a, b []value.Num) {
	n := poly.Deg(p)
	a, b = make([]value.Num, n+1), make([]value.Num, n+1)
	for k, c := range p[:n+1] {
		if (n-k)%2 == 0 {
			a[k] = c
		} else {
			b[k] = c
		}
	}
	return a, b
}

// highest is the highest coefficient of a polynomial that is not 0.
func highest(p []value.Num) value.Num {
	return p[poly.Deg(p)]
}

// Ladder returns the elements of a ladder.
func Ladder(p []value.Num) ([]value.Num, api.Errno) {
	numbers, e := Fraction(p)
	// A polynomial is Hurwitz exactly if it has a continued fraction, all numbers of which are above 0.
	if e == api.ErrForm || !isAbove0(numbers...) {
		return nil, ErrHurwitz
	}
	return numbers, e
}
