package filter

import (
	"strings"

	"pentode/api"
	"pentode/poly"
	"pentode/value"
)

// whole is p times a number above 0, so that its coefficients are integers: sums and products of integers are found without
// looking for common divisors.
func whole(p []value.Num) []value.Num {
	return poly.Scale(p, multiplier(p...))
}

// multiplier returns the least integer above 0 whose products with all numbers are integers.
func multiplier(list ...value.Num) value.Num {
	least := value.Int(1)
	for _, x := range list {
		least = value.Mul(least, denominator(value.Mul(least, x)))
	}
	return least
}

// denominator returns that of x, which package value tells in its text alone.
func denominator(x value.Num) value.Num {
	if value.Cmp(x, value.Floor(x)) == 0 {
		return value.Int(1)
	}
	_, digits, _ := strings.Cut(string(value.Text(x)), "/")
	return integer(digits)
}

// integer returns the number with these digits, of which there may be more than a Val has: so they are read in rows.
func integer(digits string) value.Num {
	const row = api.MaxRead - 1
	unit, _ := value.Read("1" + strings.Repeat("0", row))
	var sum value.Num
	for digits != "" {
		next := (len(digits)-1)%row + 1
		part, _ := value.Read(digits[:next])
		sum = value.Add(value.Mul(sum, unit), part)
		digits = digits[next:]
	}
	return sum
}
