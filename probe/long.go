package probe

import (
	"strings"

	"pentode/api"
	"pentode/value"
)

// spansOf are the spans of a prediction. Its texts may be longer than those that package value reads.
func spansOf(p []api.Range) []value.Span {
	var list []value.Span
	for _, r := range p {
		list = append(list, value.Span{Lo: number(r.Lo), Hi: number(r.Hi)})
	}
	return list
}

// number is the number with a text, however long this is.
func number(v api.Val) value.Num {
	size, isBelow := strings.CutPrefix(string(v), "-")
	top, bottom, isFraction := strings.Cut(size, "/")
	x := integer(top)
	if isFraction {
		x = over(x, integer(bottom))
	}
	if isBelow {
		x = value.Neg(x)
	}
	return x
}

// integer is the number with these digits, which are read in rows.
func integer(digits string) value.Num {
	const row = api.MaxRead - 1
	unit, _ := value.Read("1" + strings.Repeat("0", row))
	var sum value.Num
	for digits != "" {
		next := (len(digits)-1)%row + 1
		part, _ := value.Read(digits[:next])
		sum = value.Add(value.Mul(sum, unit), part)
		digits = digits[next:]
	}
	return sum
}
