package spread

import (
	"strings"

	"pentode/api"
	"pentode/value"
)

// quotient is a number as a quotient of integers, which need not be in lowest terms: to bring these there takes long.
type quotient struct{ top, bottom value.Num }

// quotientOf is a number as a quotient, the bottom of which is above 0.
func quotientOf(x value.Num) quotient {
	bottom := denominator(x)
	return quotient{value.Mul(x, bottom), bottom}
}

func (q quotient) inverse() quotient {
	return quotient{q.bottom, q.top}
}

// value is the number, if its bottom is not 0.
func (q quotient) value() value.Num {
	return over(q.top, q.bottom)
}

// compare is the sign of q less r; none of both has the bottom 0.
func (q quotient) compare(r quotient) int {
	sign := value.Cmp(value.Mul(q.top, r.bottom), value.Mul(r.top, q.bottom))
	return sign * value.Sign(q.bottom) * value.Sign(r.bottom)
}

// limits is a range for values.
type limits struct{ lo, hi quotient }

// side is -1 if a value is below the range, 1 if it is above it, and 0 if it is in it.
func (l limits) side(q quotient) int {
	switch {
	case q.compare(l.lo) < 0:
		return -1
	case q.compare(l.hi) > 0:
		return 1
	}
	return 0
}

// denominator returns that of x, which package value tells in its text alone.
func denominator(x value.Num) value.Num {
	if value.Cmp(x, value.Floor(x)) == 0 {
		return value.Int(1)
	}
	_, digits, _ := strings.Cut(string(value.Text(x)), "/")
	return integer(digits)
}

// integer returns the number with these digits, of which there may be more than a Val has: so they are read in rows.
func integer(digits string) value.Num {
	const row = api.MaxRead - 1
	unit, _ := value.Read("1" + strings.Repeat("0", row))
	var sum value.Num
	for digits != "" {
		next := (len(digits)-1)%row + 1
		part, _ := value.Read(digits[:next])
		sum = value.Add(value.Mul(sum, unit), part)
		digits = digits[next:]
	}
	return sum
}

// over is x divided by y, which is not 0.
func over(x, y value.Num) value.Num {
	quotient, _ := value.Div(x, y)
	return quotient
}

// ratio is a divided by b, which is not 0.
func ratio(a, b int) value.Num {
	return over(value.Int(int64(a)), value.Int(int64(b)))
}
