package spread

import (
	"sort"

	"pentode/api"
	"pentode/value"
)

// isLarge reports whether a grid with n numbers for each parameter has too many points.
func isLarge(n, params int) bool {
	points := 1
	for range params {
		if n > api.MaxGrid/points {
			return true
		}
		points *= n
	}
	return false
}

// along are n numbers from the lower end of a span to its upper end, or its middle.
func along(s value.Span, n int) []value.Num {
	if n == 1 {
		return []value.Num{value.SpanMid(s)}
	}
	var list []value.Num
	for j := range n {
		rise := value.Mul(value.SpanWidth(s), ratio(j, n-1))
		list = append(list, value.Add(s.Lo, rise))
	}
	return list
}

// scaled is a box with the same middles, and r of its widths.
func scaled(box []value.Span, r value.Num) []value.Span {
	var smaller []value.Span
	for _, s := range box {
		mid := value.SpanMid(s)
		reach := value.Mul(r, over(value.SpanWidth(s), value.Int(2)))
		smaller = append(smaller, value.Span{Lo: value.Sub(mid, reach), Hi: value.Add(mid, reach)})
	}
	return smaller
}

// greatest is the greatest number from 0 to most that is fit, if 0 is; a number is fit if a greater one is.
func greatest(most int, isFit func(j int) bool) (int, bool) {
	if !isFit(0) {
		return 0, false
	}
	return sort.Search(most, func(i int) bool { return !isFit(i + 1) }), true
}
