package value

import "math/bits"

// divisor returns the greatest common divisor of x and y, none of which is 0.
func divisor(x, y natural) natural {
	zerosX, zerosY := lowZeros(x), lowZeros(y)
	shift := min(zerosX, zerosY)
	switch {
	case isPower(x) || isPower(y):
		return shiftLeft(word(1), shift)
	case len(x) == 1 && len(y) == 1:
		return word(oddDivisor(x[0]>>zerosX, y[0]>>zerosY) << shift)
	}
	x, y = shiftRight(x, zerosX), shiftRight(y, zerosY)
	if compare(x, y) < 0 {
		x, y = y, x
	}
	return shiftLeft(longDivisor(x, y), shift)
}

// oddDivisor is that of two odd words.
func oddDivisor(x, y uint64) uint64 {
	for x != y {
		if x < y {
			x, y = y, x
		}
		x = oddPart(x - y)
	}
	return x
}

// oddPart returns w, which is not 0, without its factors 2.
func oddPart(w uint64) uint64 {
	return w >> bits.TrailingZeros64(w)
}

// longDivisor is that of odd numbers, of which y is not above x. It is odd as well: so it has no factor 2 of the last words.
func longDivisor(x, y natural) natural {
	n := len(x)
	a, b, nextA, nextB := make([]uint64, n), make([]uint64, n), make([]uint64, n), make([]uint64, n)
	copy(a, x)
	copy(b, y)
	for {
		n = len(trimmed(a))
		a, b, nextA, nextB = a[:n], b[:n], nextA[:n], nextB[:n]
		y = trimmed(b)
		if len(y) <= 1 {
			break
		}
		if s := stepsOf(a, b); s.some() {
			s.take(nextA, nextB, a, b)
			a, b, nextA, nextB = nextA, nextB, a, b
			continue
		}
		_, rest := divide(a, y)
		a, b = b, a
		clear(b)
		copy(b, rest)
	}
	if len(y) == 0 {
		return a
	}
	rest := divideByWord(nextA, a, y[0])
	if rest == 0 {
		return y
	}
	return word(oddDivisor(oddPart(y[0]), oddPart(rest)))
}

// steps are some steps of Euclid's algorithm at once: from a and b they lead to ua a - va b and vb b - ub a,
// or, if odd, to the negatives of these.
type steps struct {
	ua, va, ub, vb uint64
	odd            bool
}

// stepsOf makes steps with the highest 64 bits of a and b alone (Lehmer), as long as these are
// certain to give the quotients of the whole numbers (Collins' condition). The highest word of a is not 0.
func stepsOf(a, b []uint64) steps {
	n := len(a)
	shift := bits.LeadingZeros64(a[n-1])
	x := a[n-1]<<shift | a[n-2]>>(wordBits-shift)
	y := b[n-1]<<shift | b[n-2]>>(wordBits-shift)
	s := steps{ub: 1, odd: true}
	u, v := uint64(0), uint64(1)
	for y >= v && x-y >= s.vb+v {
		q := x / y
		x, y = y, x%y
		s.ua, s.ub, u = s.ub, u, s.ub+q*u
		s.va, s.vb, v = s.vb, v, s.vb+q*v
		s.odd = !s.odd
	}
	return s
}

// some reports whether these are any steps.
func (s steps) some() bool {
	return s.va != 0
}

// take makes the steps from a and b to nextA and nextB.
func (s steps) take(nextA, nextB, a, b []uint64) {
	if s.odd {
		combine(nextA, b, a, s.va, s.ua)
		combine(nextB, a, b, s.ub, s.vb)
		return
	}
	combine(nextA, a, b, s.ua, s.va)
	combine(nextB, b, a, s.vb, s.ub)
}
