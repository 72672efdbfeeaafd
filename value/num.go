// Package value is layer 1: numbers of any size, their texts, and spans of them. See shared/doc/01-value.md.
package value

import "pentode/api"

// Num is a number: its sign, and the sizes of its numerator and its denominator in lowest terms.
// A denominator 1 is kept as no words, so that the zero value is 0 and each number has one form only.
type Num struct {
	below  bool
	top    natural
	bottom natural
}

// fraction returns a number whose parts are in lowest terms; no bottom stands for 1.
func fraction(below bool, top, bottom natural) Num {
	if len(top) == 0 {
		return Num{}
	}
	if isOne(bottom) {
		bottom = nil
	}
	return Num{below, top, bottom}
}

// integral returns an integer.
func integral(below bool, size natural) Num {
	return fraction(below, size, nil)
}

// under returns the denominator.
func (x Num) under() natural {
	if len(x.bottom) == 0 {
		return word(1)
	}
	return x.bottom
}

func (x Num) whole() bool {
	return len(x.bottom) == 0
}

// opposite is -x, with the words of x.
func (x Num) opposite() Num {
	return Num{!x.below && len(x.top) > 0, x.top, x.bottom}
}

// size is the size of x, with the words of x.
func (x Num) size() Num {
	return Num{false, x.top, x.bottom}
}

// copied is x with words of its own.
func (x Num) copied() Num {
	return Num{x.below, clone(x.top), clone(x.bottom)}
}

// inverse is 1 divided by x, which is not 0, with the words of x.
func (x Num) inverse() Num {
	return fraction(x.below, x.under(), x.top)
}

// Int returns an integer.
func Int(n int64) Num {
	return integral(n < 0, word(sizeOf(n)))
}

// sizeOf is the size of n; that of the least int64 is no int64.
func sizeOf(n int64) uint64 {
	if n < 0 {
		return -uint64(n)
	}
	return uint64(n)
}

// Ratio returns a quotient of integers.
func Ratio(a, b int64) (Num, api.Errno) {
	return Div(Int(a), Int(b))
}

// Add returns the sum.
func Add(x, y Num) Num {
	if x.whole() && y.whole() {
		below, top := signedSum(x.below, x.top, y.below, y.top)
		return integral(below, top)
	}
	// Only the common divisor d of the denominators may have divisors in common with the numerator of the sum.
	d := divisor(x.under(), y.under())
	bottomX, bottomY := exactly(x.under(), d), exactly(y.under(), d)
	below, top := signedSum(x.below, times(x.top, bottomY), y.below, times(y.top, bottomX))
	if len(top) == 0 || isOne(d) {
		return fraction(below, top, times(x.under(), bottomY))
	}
	common := divisor(top, d)
	return fraction(below, exactly(top, common), times(bottomX, exactly(y.under(), common)))
}

// signedSum returns the sign and the size of the sum of numbers with the signs and the sizes given.
func signedSum(belowX bool, x natural, belowY bool, y natural) (bool, natural) {
	switch {
	case belowX == belowY:
		return belowX, plus(x, y)
	case compare(x, y) < 0:
		return belowY, minus(y, x)
	}
	return belowX, minus(x, y)
}

// Sub returns the difference.
func Sub(x, y Num) Num {
	return Add(x, y.opposite())
}

// Mul returns the product.
func Mul(x, y Num) Num {
	below := x.below != y.below
	if x.whole() && y.whole() {
		return integral(below, times(x.top, y.top))
	}
	if len(x.top) == 0 || len(y.top) == 0 {
		return Num{}
	}
	topX, bottomY := withoutCommon(x.top, y.bottom)
	topY, bottomX := withoutCommon(y.top, x.bottom)
	return fraction(below, times(topX, topY), times(bottomX, bottomY))
}

// withoutCommon returns the numerator of a number and the denominator of another one, divided by their greatest common divisor.
func withoutCommon(top, bottom natural) (a, b natural) {
	if len(bottom) == 0 {
		return top, word(1)
	}
	d := divisor(top, bottom)
	return exactly(top, d), exactly(bottom, d)
}

// Div returns the quotient.
func Div(x, y Num) (Num, api.Errno) {
	if len(y.top) == 0 {
		return Num{}, api.ErrZero
	}
	return Mul(x, y.inverse()), api.OK
}

// Neg returns the negative.
func Neg(x Num) Num {
	return x.opposite().copied()
}

// Abs returns the size.
func Abs(x Num) Num {
	return x.size().copied()
}

// Sign returns the sign.
func Sign(x Num) int {
	switch {
	case x.below:
		return -1
	case len(x.top) == 0:
		return 0
	}
	return 1
}

// Cmp compares.
func Cmp(x, y Num) int {
	sign := Sign(x)
	switch other := Sign(y); {
	case sign < other:
		return -1
	case sign > other:
		return 1
	}
	return sign * compareSizes(x, y)
}

// compareSizes returns the sign of the size of x less that of y.
func compareSizes(x, y Num) int {
	if x.whole() && y.whole() {
		return compare(x.top, y.top)
	}
	// A product has as many bits as its factors together, or one less.
	more := bitLength(x.top) + bitLength(y.under()) - bitLength(y.top) - bitLength(x.under())
	switch {
	case more > 1:
		return 1
	case more < -1:
		return -1
	}
	return compare(times(x.top, y.under()), times(y.top, x.under()))
}

// lesser is the lesser one of both, with its words.
func lesser(x, y Num) Num {
	if Cmp(x, y) <= 0 {
		return x
	}
	return y
}

// greater is the greater one of both, with its words.
func greater(x, y Num) Num {
	if Cmp(x, y) >= 0 {
		return x
	}
	return y
}

// Min returns the lesser one.
func Min(x, y Num) Num {
	return lesser(x, y).copied()
}

// Max returns the greater one.
func Max(x, y Num) Num {
	return greater(x, y).copied()
}

// Pow returns a power.
func Pow(x Num, n int) (Num, api.Errno) {
	if n < -api.MaxPow || n > api.MaxPow {
		return Num{}, api.ErrRange
	}
	if n < 0 {
		if len(x.top) == 0 {
			return Num{}, api.ErrZero
		}
		return power(x.inverse(), -n), api.OK
	}
	return power(x, n), api.OK
}

// power returns x to the power n, from 0 on; powers of numbers in lowest terms are in lowest terms.
func power(x Num, n int) Num {
	return fraction(x.below && n%2 == 1, raised(x.top, n), raised(x.under(), n))
}
