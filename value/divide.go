package value

import "math/bits"

// divideFrom is the number of words, of the divisor and of the quotient, from which on a division is made of smaller ones.
const divideFrom = 80

// divide returns the quotient of x by y, which is not 0, rounded down, and the rest.
func divide(x, y natural) (quotient, rest natural) {
	if compare(x, y) < 0 {
		return nil, clone(x)
	}
	if len(y) == 1 {
		z := make([]uint64, len(x))
		r := divideByWord(z, x, y[0])
		return trimmed(z), word(r)
	}
	// With the highest bit of the divisor 1, the guesses of divideLong are close.
	shift := bits.LeadingZeros64(y[len(y)-1])
	quotient, rest = divideShifted(shiftLeft(x, shift), shiftLeft(y, shift))
	return quotient, shiftRight(rest, shift)
}

// exactly returns x divided by d, which divides it; it may be x itself.
func exactly(x, d natural) natural {
	switch {
	case isOne(d):
		return x
	case isPower(d):
		return shiftRight(x, lowZeros(d))
	}
	q, _ := divide(x, d)
	return q
}

// divideByWord makes z the quotient of x by w, and returns the rest.
func divideByWord(z, x []uint64, w uint64) uint64 {
	rest := uint64(0)
	for i := len(x) - 1; i >= 0; i-- {
		z[i], rest = bits.Div64(rest, x[i], w)
	}
	return rest
}

// divideShifted divides by a y of at least two words, whose highest bit is 1. What it returns may share the words of x.
func divideShifted(x, y natural) (quotient, rest natural) {
	more := len(x) - len(y)
	switch {
	case compare(x, y) < 0:
		return nil, x
	case more < divideFrom || len(y) < divideFrom:
		return divideLong(x, y)
	case more > len(y):
		return divideInTurn(x, y, more/2)
	}
	return divideInHalves(x, y, more/2)
}

// divideInTurn divides what is above n words first, and then the rest of this with the words below.
func divideInTurn(x, y natural, n int) (quotient, rest natural) {
	low, high := cut(x, n)
	q1, r1 := divideShifted(high, y)
	q0, r0 := divideShifted(joined(low, r1, n), y)
	return joined(q0, q1, n), r0
}

// divideInHalves finds the upper and the lower half of the quotient, each by the words of y above n alone,
// which give at most a little too much: then the quotient is lowered.
func divideInHalves(x, y natural, n int) (quotient, rest natural) {
	yLow, yHigh := cut(y, n)
	half := func(x natural, at int) (q, r natural) {
		low, high := cut(x, at+n)
		q, r = divideShifted(high, yHigh)
		r = joined(low, r, at+n)
		taken := joined(nil, times(q, yLow), at)
		for compare(r, taken) < 0 {
			q = minus(q, word(1))
			r = joined(r, y, at)
		}
		return q, minus(r, taken)
	}
	q1, r1 := half(x, n)
	q0, r0 := half(r1, 0)
	return joined(q0, q1, n), r0
}

// divideLong divides word by word of the quotient (Knuth's algorithm D), for y as in divideShifted.
func divideLong(x, y natural) (quotient, rest natural) {
	n := len(y)
	left := make([]uint64, len(x)+1)
	copy(left, x)
	q := make([]uint64, len(left)-n)
	for i := len(q) - 1; i >= 0; i-- {
		part := left[i : i+n+1]
		guess := guessWord(part, y)
		if borrow := subScaled(part[:n], y, guess); borrow > part[n] {
			guess--
			addWords(part[:n], part[:n], y)
		}
		part[n] = 0
		q[i] = guess
	}
	return trimmed(q), trimmed(left)
}

// guessWord returns the quotient of part, which has a word more than y, by y; or 1 more than this.
func guessWord(part []uint64, y natural) uint64 {
	n := len(y)
	high := y[n-1]
	if part[n] >= high {
		return 1<<wordBits - 1
	}
	guess, rest := bits.Div64(part[n], part[n-1], high)
	for {
		over, low := bits.Mul64(guess, y[n-2])
		if over < rest || over == rest && low <= part[n-2] {
			return guess
		}
		guess--
		rest += high
		if rest < high { // beyond a word: the guess is small enough
			return guess
		}
	}
}
