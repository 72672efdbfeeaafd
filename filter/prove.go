package filter

import (
	"slices"

	"pentode/api"
	"pentode/value"
)

// Prove tells whether a mask is met for all values of symbols in a box.
func Prove(t api.FlTask, cuts int) (verdict, band, vertex int, e api.Errno) {
	k, e := taskOf(t)
	switch {
	case e != api.OK:
		return 0, 0, 0, e
	case cuts < 0 || cuts > api.MaxFlCuts:
		return 0, 0, 0, api.ErrRange
	}
	if band, vertex, isFound := k.firstUnmetVertex(); isFound {
		return -1, band, vertex, api.OK
	}
	verdict, band = k.prove(cuts)
	return verdict, band, 0, api.OK
}

// part is a box of w and the symbols, for which a band is to be proved.
type part struct {
	band int
	box  []value.Span
}

// prove tells whether all bands are proved with at most so many cuts: 1 and 0; or 0 and the first one that is not.
func (t *task) prove(cuts int) (verdict, band int) {
	var stack []part // the first one is on top
	for i := range slices.Backward(t.mask) {
		stack = append(stack, t.whole(i))
	}
	var first part
	for len(stack) > 0 {
		top := len(stack) - 1
		first, stack = stack[top], stack[:top:top]
		if t.isProved(first) {
			continue
		}
		v := t.widest(first)
		if cuts == 0 || v == none {
			goto open
		}
		cuts--
		lower, upper := first.halves(v)
		stack = append(stack, upper, lower)
	}
	return 1, 0
open:
	return 0, first.band
}

// whole is all of a band.
func (t *task) whole(band int) part {
	return part{band, append([]value.Span{t.mask[band].ends}, t.box...)}
}

// isProved reports whether a box is proved.
func (t *task) isProved(p part) bool {
	b := t.mask[p.band]
	num, den := t.num.squareReach(p.box), t.den.squareReach(p.box)
	above := value.SpanSub(value.SpanMul(value.Point(b.most), den), num)
	below := value.SpanSub(num, value.SpanMul(value.Point(b.least), den))
	return value.Sign(above.Lo) >= 0 && value.Sign(below.Lo) >= 0
}

// none is in place of the number of a variable.
const none = -1

// isPoint reports whether a span is a single number.
func isPoint(a value.Span) bool {
	return value.Cmp(a.Lo, a.Hi) == 0
}

// widest is the variable whose span has the greatest part of its width at first, or none if all spans are points.
func (t *task) widest(p part) int {
	widest := none
	var most value.Num
	whole := t.whole(p.band).box
	for v, s := range p.box {
		if isPoint(s) {
			continue
		}
		if part := over(value.SpanWidth(s), value.SpanWidth(whole[v])); widest == none || value.Cmp(part, most) > 0 {
			widest, most = v, part
		}
	}
	return widest
}

// halves are the lower and the upper half, cut in the middle of the span of a variable.
func (p part) halves(v int) (lower, upper part) {
	middle := value.SpanMid(p.box[v])
	lower, upper = part{p.band, slices.Clone(p.box)}, part{p.band, slices.Clone(p.box)}
	lower.box[v].Hi, upper.box[v].Lo = middle, middle
	return lower, upper
}
