package value

import "pentode/api"

// Down rounds down to significant bits.
func Down(x Num, bits int) Num {
	return rounded(x, bits, x.below)
}

// Up rounds up to significant bits.
func Up(x Num, bits int) Num {
	return rounded(x, bits, !x.below)
}

// rounded returns the number with at most so many bits that is next to x: away from 0, or towards it.
func rounded(x Num, bits int, away bool) Num {
	if len(x.top) == 0 {
		return Num{}
	}
	bits = min(max(bits, 1), api.MaxBits)
	// With this shift the quotient has that many bits, or one more.
	shift := bitLength(x.top) - bitLength(x.under()) - bits
	q, exact := shiftedQuotient(x, shift)
	if bitLength(q) > bits {
		exact = exact && lowZeros(q) > 0
		q = shiftRight(q, 1)
		shift++
	}
	if away && !exact {
		q = plus(q, word(1))
	}
	return scaled(x.below, q, shift)
}

// shiftedQuotient returns the size of x divided by 2^shift, rounded down, and whether it is this exactly.
func shiftedQuotient(x Num, shift int) (q natural, exact bool) {
	if shift <= 0 {
		q, rest := divide(shiftLeft(x.top, -shift), x.under())
		return q, len(rest) == 0
	}
	q, rest := divide(shiftRight(x.top, shift), x.under())
	return q, len(rest) == 0 && lowZeros(x.top) >= shift
}

// scaled returns q, which is not 0, times 2^shift, with the sign.
func scaled(below bool, q natural, shift int) Num {
	if shift >= 0 {
		return integral(below, shiftLeft(q, shift))
	}
	twos := min(lowZeros(q), -shift)
	return fraction(below, shiftRight(q, twos), shiftLeft(word(1), -shift-twos))
}

// Floor returns the greatest integer that is not greater.
func Floor(x Num) Num {
	return integer(x, x.below)
}

// Ceil returns the least integer that is not less.
func Ceil(x Num) Num {
	return integer(x, !x.below)
}

// integer returns the integer that is next to x: away from 0, or towards it.
func integer(x Num, away bool) Num {
	q, rest := divide(x.top, x.under())
	if away && len(rest) > 0 {
		q = plus(q, word(1))
	}
	return integral(x.below, q)
}
