package value

// splitFrom is the number of words from which on factors are split to multiply them.
const splitFrom = 40

// times returns the product of x and y.
func times(x, y natural) natural {
	if len(x) < len(y) {
		x, y = y, x
	}
	if len(y) == 0 {
		return nil
	}
	if len(y) < splitFrom {
		return timesByWord(x, y)
	}
	half := (len(x) + 1) / 2
	x0, x1 := cut(x, half)
	if len(y) <= half {
		return joined(times(x0, y), times(x1, y), half)
	}
	// Three products in place of four (Karatsuba): x0 y1 + x1 y0 is (x0 + x1) (y0 + y1) less the other two.
	y0, y1 := cut(y, half)
	low, high := times(x0, y0), times(x1, y1)
	middle := minus(minus(times(plus(x0, x1), plus(y0, y1)), low), high)
	return joined(joined(low, high, 2*half), middle, half)
}

// timesByWord multiplies x by each word of y.
func timesByWord(x, y natural) natural {
	z := make([]uint64, len(x)+len(y))
	for i, w := range y {
		z[len(x)+i] = addScaled(z[i:], x, w)
	}
	return trimmed(z)
}

// raised returns x to the power n.
func raised(x natural, n int) natural {
	z := word(1)
	for n > 0 {
		if n%2 == 1 {
			z = times(z, x)
		}
		n /= 2
		if n > 0 {
			x = times(x, x)
		}
	}
	return z
}
