package poly

import (
	"strings"

	"pentode/api"
	"pentode/value"
)

// Div divides with remainder.
func Div(p, q []value.Num) (quotient, rest []value.Num, e api.Errno) {
	switch {
	case tooLong(p) || tooLong(q):
		return nil, nil, api.ErrLong
	case Deg(q) < 0:
		return nil, nil, api.ErrZero
	}
	quotient, rest = divided(p, cut(q))
	return quotient, rest, api.OK
}

// divided is Div for a q that is not 0 and has no zeros at its end.
func divided(p, q []value.Num) (quotient, rest []value.Num) {
	rest = Trim(p)
	n := len(q) - 1
	if len(rest) <= n {
		return nil, rest
	}
	quotient = make([]value.Num, len(rest)-n)
	for k := len(quotient) - 1; k >= 0; k-- {
		quotient[k] = over(rest[n+k], q[n])
		rest = rest[:n+k]
		for i, c := range q[:n] {
			rest[k+i] = value.Sub(rest[k+i], value.Mul(quotient[k], c))
		}
	}
	return quotient, cut(rest)
}

// over is x divided by y, which is not 0.
func over(x, y value.Num) value.Num {
	quotient, _ := value.Div(x, y)
	return quotient
}

// Gcd returns the greatest common divisor.
func Gcd(p, q []value.Num) ([]value.Num, api.Errno) {
	if tooLong(p) || tooLong(q) {
		return nil, api.ErrLong
	}
	return monic(commonDivisor(p, q)), api.OK
}

// commonDivisor is a greatest common divisor of p and q, with integers without a common divisor as coefficients.
func commonDivisor(p, q []value.Num) []value.Num {
	var common []value.Num
	for f := range chainOf(p, q) {
		common = f
	}
	return whole(common)
}

// monic is p divided by its highest coefficient.
func monic(p []value.Num) []value.Num {
	p = cut(p)
	if len(p) == 0 {
		return nil
	}
	return Scale(p, over(value.Int(1), p[len(p)-1]))
}

// Parts returns the products of the factors by their multiplicities.
func Parts(p []value.Num) ([][]value.Num, api.Errno) {
	if e := checked(p); e != api.OK {
		return nil, e
	}
	// Yun's algorithm. After the first step f has each root r once, and g is f times the sum of (m - n) / (x - r), where m
	// is the multiplicity of r, and n is 1: so g is 0 at the roots with m = n alone. Each step after this takes these out
	// of f, and n is 1 more.
	f := whole(p)
	g := Deriv(f)
	next := func() []value.Num {
		part := commonDivisor(f, g)
		f, _ = divided(f, part)
		g, _ = divided(g, part)
		g = Sub(g, Deriv(f))
		return part
	}
	next()
	var parts [][]value.Num
	for Deg(f) > 0 {
		parts = append(parts, monic(next()))
	}
	return parts, api.OK
}

// whole is p times a number above 0, so that its coefficients are integers without a common divisor: sums and products of
// integers are found without looking for common divisors.
func whole(p []value.Num) []value.Num {
	p = cut(p)
	if len(p) == 0 {
		return nil
	}
	// With 1 or -1 as the highest coefficient, the least multiple that has integers alone has no common divisor.
	unit := Scale(p, over(value.Int(1), value.Abs(p[len(p)-1])))
	return Scale(unit, multiplier(unit))
}

// multiplier returns the least integer above 0 whose products with all numbers of l are integers.
func multiplier(l []value.Num) value.Num {
	least := value.Int(1)
	for _, x := range l {
		least = value.Mul(least, denominator(value.Mul(least, x)))
	}
	return least
}

// denominator returns that of x, which package value tells in its text alone.
func denominator(x value.Num) value.Num {
	if value.Cmp(x, value.Floor(x)) == 0 {
		return value.Int(1)
	}
	_, digits, _ := strings.Cut(string(value.Text(x)), "/")
	return fromDigits(digits)
}

// fromDigits returns the number with these digits, of which there may be more than a Val has.
func fromDigits(digits string) value.Num {
	const row = api.MaxRead - 1
	unit, _ := value.Read("1" + strings.Repeat("0", row))
	var sum value.Num
	for digits = strings.Repeat("0", row-len(digits)%row) + digits; digits != ""; digits = digits[row:] {
		part, _ := value.Read(digits[:row])
		sum = value.Add(value.Mul(sum, unit), part)
	}
	return sum
}
