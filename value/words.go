package value

import "math/bits"

// doing is what is done with a word of x, a word of y and what is carried: it gives a word, and what is carried next.
type doing interface {
	~func(x, y, carry uint64) (word, next uint64)
}

// carried does it from the lowest words on, for as many as y has, and returns what is carried at the end.
// z may be x or y, as each word is read before the same one is written.
func carried[D doing](z, x, y []uint64, carry uint64, do D) uint64 {
	z, x = z[:len(y)], x[:len(y)]
	for i, w := range y {
		z[i], carry = do(x[i], w, carry)
	}
	return carry
}

// addWords makes z the sum of x and y, which has no more words than x, and returns the carry.
func addWords(z, x, y []uint64) uint64 {
	carry := carried(z, x, y, 0, bits.Add64)
	z, x = z[len(y):], x[len(y):]
	return carried(z, x, x, carry, func(w, _, carry uint64) (uint64, uint64) {
		return bits.Add64(w, 0, carry)
	})
}

// subWords makes z the number x less y, which has no more words than x, and returns the borrow.
func subWords(z, x, y []uint64) uint64 {
	borrow := carried(z, x, y, 0, bits.Sub64)
	z, x = z[len(y):], x[len(y):]
	return carried(z, x, x, borrow, func(w, _, borrow uint64) (uint64, uint64) {
		return bits.Sub64(w, 0, borrow)
	})
}

// scaleWords makes z the number x times f, plus carry, and returns the carry.
func scaleWords(z, x []uint64, f, carry uint64) uint64 {
	return carried(z, x, x, carry, func(w, _, carry uint64) (uint64, uint64) {
		high, low := bits.Mul64(w, f)
		low, over := bits.Add64(low, carry, 0)
		return low, high + over
	})
}

// addScaled adds y times f to as many words of z, and returns the carry.
func addScaled(z, y []uint64, f uint64) uint64 {
	return carried(z, z, y, 0, func(w, v, carry uint64) (uint64, uint64) {
		high, low := bits.Mul64(v, f)
		low, over := bits.Add64(low, carry, 0)
		high += over
		low, over = bits.Add64(low, w, 0)
		return low, high + over
	})
}

// subScaled subtracts y times f from as many words of z, and returns the borrow.
func subScaled(z, y []uint64, f uint64) uint64 {
	return carried(z, z, y, 0, func(w, v, borrow uint64) (uint64, uint64) {
		high, low := bits.Mul64(v, f)
		low, over := bits.Add64(low, borrow, 0)
		high += over
		low, over = bits.Sub64(w, low, 0)
		return low, high + over
	})
}

// combine makes z the number x times f less y times g, which has to be from 0 on and to fit into z; f and g are below 2^63.
func combine(z, x, y []uint64, f, g uint64) {
	// What is carried may be below 0: it is held as in an int64.
	carried(z, x, y, 0, func(w, v, carry uint64) (uint64, uint64) {
		highX, lowX := bits.Mul64(w, f)
		highY, lowY := bits.Mul64(v, g)
		low, borrow := bits.Sub64(lowX, lowY, 0)
		low, over := bits.Add64(low, carry, 0)
		return low, highX - highY - borrow + over + uint64(int64(carry)>>63)
	})
}
