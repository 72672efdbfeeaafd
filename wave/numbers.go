package wave

import (
	"pentode/api"
	"pentode/value"
)

// numbers reads texts, or tells the number of the first one that is not valid, and its error.
func numbers(texts ...api.Val) (list []value.Num, at int, e api.Errno) {
	for i, v := range texts {
		x, e := value.Parse(v)
		if e != api.OK {
			return nil, i, e
		}
		list = append(list, x)
	}
	return list, 0, api.OK
}

func textsOf(list []value.Num) []api.Val {
	var texts []api.Val
	for _, x := range list {
		texts = append(texts, value.Text(x))
	}
	return texts
}

// boxOf reads a box, or returns its error.
func boxOf(ranges []api.Range) ([]value.Span, api.Errno) {
	for _, r := range ranges {
		if _, _, e := numbers(r.Lo, r.Hi); e != api.OK {
			return nil, e
		}
	}
	var box []value.Span
	for _, r := range ranges {
		s, e := value.SpanOf(r)
		if e != api.OK {
			return nil, e
		}
		box = append(box, s)
	}
	return box, api.OK
}

func rangesOf(box []value.Span) []api.Range {
	var ranges []api.Range
	for _, s := range box {
		ranges = append(ranges, value.SpanText(s))
	}
	return ranges
}

// isLong reports whether the text of a number is too long for a Val.
func isLong(x value.Num) bool {
	return value.Digits(x) > api.MaxDigits
}

// over is x divided by y, which is not 0.
func over(x, y value.Num) value.Num {
	quotient, _ := value.Div(x, y)
	return quotient
}

func half(x value.Num) value.Num {
	return over(x, value.Int(2))
}
