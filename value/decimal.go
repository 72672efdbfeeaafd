package value

import "math/bits"

// A word has at least chunk decimal digits; chunkUnit is ten to this power.
const (
	chunk     = 19
	chunkUnit = 10_000_000_000_000_000_000
)

// Numbers of more than rowWords words are split, by ten to the power rowDigits or a power of this, to write them.
const (
	rowWords  = 16
	rowDigits = rowWords * chunk
)

// log2 is the logarithm of 2 to the base 10, times 2^64, rounded down.
const log2 = 5553023288523357132

func tenTo(n int) natural {
	return raised(word(10), n)
}

// allDigits reports whether s is one or more decimal digits.
func allDigits(s string) bool {
	for _, d := range s {
		if d < '0' || d > '9' {
			return false
		}
	}
	return s != ""
}

// fromDigits returns the number that decimal digits stand for.
func fromDigits(s string) natural {
	z := make([]uint64, len(s)/chunk+1)
	part, unit := uint64(0), uint64(1)
	for _, d := range s {
		part, unit = 10*part+uint64(d-'0'), 10*unit
		if unit == chunkUnit {
			scaleWords(z, z, unit, part)
			part, unit = 0, 1
		}
	}
	scaleWords(z, z, unit, part)
	return trimmed(z)
}

// countDigits returns how many decimal digits x has.
func countDigits(x natural) int {
	if len(x) == 0 {
		return 1
	}
	n := uint64(bitLength(x))
	least, _ := bits.Mul64(n-1, log2)
	most, _ := bits.Mul64(n, log2+1)
	count := int(least) + 1
	for count < int(most)+1 && compare(x, tenTo(count)) >= 0 {
		count++
	}
	return count
}

// toDigits returns the decimal digits of x.
func toDigits(x natural) string {
	if len(x) == 0 {
		return "0"
	}
	return string(appendDigits(nil, x, 0, unitsFor(x)))
}

// unitsFor returns ten to the power rowDigits, its square, the square of this and so on, while they are not longer than x.
func unitsFor(x natural) []natural {
	if len(x) <= rowWords {
		return nil
	}
	units := []natural{tenTo(rowDigits)}
	for {
		last := units[len(units)-1]
		if 2*len(last) > len(x)+1 {
			return units
		}
		units = append(units, times(last, last))
	}
}

// appendDigits appends the digits of x, with zeros before them if they are fewer than width.
func appendDigits(out []byte, x natural, width int, units []natural) []byte {
	if len(units) == 0 {
		return appendRow(out, x, width)
	}
	last := len(units) - 1
	lowWidth := rowDigits << last
	high, low := divide(x, units[last])
	if len(high) > 0 || width > 0 {
		out = appendDigits(out, high, max(width-lowWidth, 0), units[:last])
		width = lowWidth
	}
	return appendDigits(out, low, width, units[:last])
}

// appendRow does what appendDigits does, by taking the digits of a word at a time from the end.
func appendRow(out []byte, x natural, width int) []byte {
	left := clone(x)
	row := make([]byte, 0, (chunk+1)*len(x)) // the last digit first
	for len(left) > 0 {
		part := divideByWord(left, left, chunkUnit)
		left = trimmed(left)
		for i := 0; i < chunk && (part > 0 || len(left) > 0); i++ {
			row = append(row, byte('0'+part%10))
			part /= 10
		}
	}
	for i := len(row); i < width; i++ {
		out = append(out, '0')
	}
	for i := len(row) - 1; i >= 0; i-- {
		out = append(out, row[i])
	}
	return out
}
