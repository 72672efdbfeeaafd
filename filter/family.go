package filter

import (
	"pentode/api"
	"pentode/poly"
	"pentode/value"
)

// Bessel returns Bessel's polynomial.
func Bessel(n int) ([]value.Num, api.Errno) {
	return family(n, func(k int) value.Num {
		below := value.Mul(twoTo(n-k), value.Mul(factorial(k), factorial(n-k)))
		return over(factorial(2*n-k), below)
	})
}

// Binomial returns the power of 1 + s.
func Binomial(n int) ([]value.Num, api.Errno) {
	return family(n, func(k int) value.Num {
		return over(factorial(n), value.Mul(factorial(k), factorial(n-k)))
	})
}

// family is a polynomial with the degree n and a coefficient for each power.
func family(n int, coefficient func(k int) value.Num) ([]value.Num, api.Errno) {
	if n < 0 || n > api.MaxOrder {
		return nil, api.ErrRange
	}
	p := make([]value.Num, n+1)
	for k := range p {
		p[k] = coefficient(k)
	}
	return p, api.OK
}

// factorial is the product of the integers from 1 to n.
func factorial(n int) value.Num {
	product := value.Int(1)
	for k := range n {
		product = value.Mul(product, value.Int(int64(k+1)))
	}
	return product
}

// twoTo is 2 to the power n, which is within the limit of value.Pow.
func twoTo(n int) value.Num {
	power, _ := value.Pow(value.Int(2), n)
	return power
}

// Denorm changes the unit of frequency.
func Denorm(p []value.Num, w value.Num) ([]value.Num, api.Errno) {
	switch {
	case isLong(p):
		return nil, api.ErrLong
	case !isAbove0(w):
		return nil, api.ErrRange
	}
	s := []value.Num{value.Int(0), over(value.Int(1), w)}
	return composed(p, poly.Deg(p), s, []value.Num{value.Int(1)}), api.OK
}

// High exchanges low and high frequencies.
func High(p []value.Num) ([]value.Num, api.Errno) {
	if e := checked(p); e != api.OK {
		return nil, e
	}
	s := []value.Num{value.Int(0), value.Int(1)}
	return composed(p, poly.Deg(p), []value.Num{value.Int(1)}, s), api.OK
}

// Band makes a band of low frequencies.
func Band(p []value.Num, b, w2 value.Num) ([]value.Num, api.Errno) {
	n := poly.Deg(p)
	switch {
	case isLong(p):
		return nil, api.ErrLong
	case !isAbove0(b, w2):
		return nil, api.ErrRange
	case n < 0:
		return nil, api.ErrZero
	case 2*n > api.MaxDeg:
		return nil, api.ErrLong
	}
	square := []value.Num{w2, value.Int(0), value.Int(1)}
	return composed(p, n, square, []value.Num{value.Int(0), b}), api.OK
}
