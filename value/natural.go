package value

import "math/bits"

const wordBits = 64

// natural is a natural number: its words, the lowest one first, the highest one not 0. The number 0 is nil.
// The functions of naturals change no argument, and return new memory if nothing else is said, so that Nums share none (R4).
type natural []uint64

// trimmed returns the number in these words, which are not copied.
func trimmed(words []uint64) natural {
	n := len(words)
	for n > 0 && words[n-1] == 0 {
		n--
	}
	if n == 0 {
		return nil
	}
	return words[:n]
}

// word returns a number of one word.
func word(w uint64) natural {
	if w == 0 {
		return nil
	}
	return natural{w}
}

func clone(x natural) natural {
	if len(x) == 0 {
		return nil
	}
	z := make(natural, len(x))
	copy(z, x)
	return z
}

func isOne(x natural) bool {
	return len(x) == 1 && x[0] == 1
}

// bitLength returns how many bits x has, up to its highest bit that is 1.
func bitLength(x natural) int {
	if len(x) == 0 {
		return 0
	}
	return wordBits*(len(x)-1) + bits.Len64(x[len(x)-1])
}

// lowZeros returns how many bits of x, which is not 0, are 0 before the lowest one that is 1.
func lowZeros(x natural) int {
	i := 0
	for x[i] == 0 {
		i++
	}
	return wordBits*i + bits.TrailingZeros64(x[i])
}

// isPower reports whether x, which is not 0, is a power of two.
func isPower(x natural) bool {
	return lowZeros(x) == bitLength(x)-1
}

// compare returns the sign of x less y.
func compare(x, y natural) int {
	switch {
	case len(x) < len(y):
		return -1
	case len(x) > len(y):
		return 1
	}
	for i := len(x) - 1; i >= 0; i-- {
		switch {
		case x[i] < y[i]:
			return -1
		case x[i] > y[i]:
			return 1
		}
	}
	return 0
}

func plus(x, y natural) natural {
	if len(x) < len(y) {
		x, y = y, x
	}
	z := make([]uint64, len(x)+1)
	z[len(x)] = addWords(z, x, y)
	return trimmed(z)
}

// minus returns x less y, which is not above x.
func minus(x, y natural) natural {
	z := make([]uint64, len(x))
	subWords(z, x, y)
	return trimmed(z)
}

// shiftLeft returns x times 2^n.
func shiftLeft(x natural, n int) natural {
	if len(x) == 0 {
		return nil
	}
	whole, part := n/wordBits, uint(n%wordBits)
	z := make([]uint64, whole+len(x)+1)
	z[whole+len(x)] = carried(z[whole:], x, x, 0, func(w, _, carry uint64) (uint64, uint64) {
		return w<<part | carry, w >> (wordBits - part)
	})
	return trimmed(z)
}

// shiftRight returns x divided by 2^n, rounded down.
func shiftRight(x natural, n int) natural {
	whole, part := n/wordBits, uint(n%wordBits)
	if whole >= len(x) {
		return nil
	}
	x = x[whole:]
	top := len(x) - 1
	z := make([]uint64, len(x))
	carried(z, x[1:], x[:top], 0, func(above, w, _ uint64) (uint64, uint64) {
		return w>>part | above<<(wordBits-part), 0
	})
	z[top] = x[top] >> part
	return trimmed(z)
}

// cut returns the number in the lowest n words of x, and that in the others; words are not copied.
func cut(x natural, n int) (low, high natural) {
	if len(x) <= n {
		return x, nil
	}
	return trimmed(x[:n]), x[n:]
}

// joined returns low plus high times 2^(64 n).
func joined(low, high natural, n int) natural {
	if len(high) == 0 {
		return clone(low)
	}
	z := make([]uint64, max(len(low), n+len(high))+1)
	copy(z, low)
	addWords(z[n:], z[n:], high)
	return trimmed(z)
}
