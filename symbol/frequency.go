package symbol

import (
	"slices"

	"pentode/api"
	"pentode/value"
)

// Low returns a number that a polynomial is not below, in size, over a box of frequencies and symbols.
func Low(p []api.SyTerm, box []value.Span) (value.Num, api.Errno) {
	a, e := canonical(p, len(box))
	switch {
	case e != api.OK:
		return value.Num{}, e
	case len(box) == 0:
		return value.Num{}, api.ErrRange
	}
	return a.low(box), api.OK
}

// Drop leaves out small terms.
func Drop(p []api.SyTerm, box []value.Span, eps value.Num) (q []api.SyTerm, bound value.Num, e api.Errno) {
	a, e := canonical(p, len(box))
	switch {
	case e != api.OK:
		return nil, value.Num{}, e
	case len(box) == 0:
		return nil, value.Num{}, api.ErrRange
	}
	return a.drop(box, eps)
}

// Simplify leaves out small terms of a transfer function.
func Simplify(num, den []api.SyTerm, box []value.Span, eps value.Num) (top, bottom []api.SyTerm, bound value.Num, e api.Errno) {
	n, d, e := bothCanonical(num, den, len(box))
	switch {
	case e != api.OK:
		return nil, nil, value.Num{}, e
	case len(box) == 0:
		return nil, nil, value.Num{}, api.ErrRange
	}
	top, above, e := n.drop(box, eps)
	if e != api.OK {
		return nil, nil, value.Num{}, e
	}
	bottom, below, e := d.drop(box, eps)
	if e != api.OK {
		return nil, nil, value.Num{}, e
	}
	// The bound of the denominator is at most eps, and so below 1.
	return top, bottom, over(value.Add(above, below), value.Sub(value.Int(1), below)), api.OK
}

// drop is Drop for a box that is not empty.
func (p terms) drop(box []value.Span, eps value.Num) ([]api.SyTerm, value.Num, api.Errno) {
	if value.Sign(eps) < 0 || value.Cmp(eps, value.Int(1)) >= 0 {
		return nil, value.Num{}, api.ErrRange
	}
	low := p.low(box)
	if value.Sign(low) == 0 {
		return nil, value.Num{}, api.ErrNone
	}
	kept, lost := p.without(box, value.Mul(eps, low))
	q, e := kept.written(len(box))
	if e != api.OK {
		return nil, value.Num{}, e
	}
	return q, over(lost, low), api.OK
}

// without returns the terms but those with the least weights, as many as together weigh at most as much as is told; and how
// much these weigh.
func (p terms) without(box []value.Span, most value.Num) (kept terms, lost value.Num) {
	weights := make([]value.Num, len(p))
	order := make([]int, len(p))
	for i, t := range p {
		weights[i] = greatestSize(t.reach(box))
		order[i] = i
	}
	slices.SortStableFunc(order, func(i, k int) int { return value.Cmp(weights[i], weights[k]) })
	for len(order) > 0 {
		more := value.Add(lost, weights[order[0]])
		if value.Cmp(more, most) > 0 {
			break
		}
		lost = more
		order = order[1:]
	}
	slices.Sort(order)
	for _, i := range order {
		kept = append(kept, p[i])
	}
	return kept, lost
}

// low is the low size.
func (p terms) low(box []value.Span) value.Num {
	re, im := p.parts()
	return value.Max(leastSize(re.reach(box)), leastSize(im.reach(box)))
}

// parts are the real part and the imaginary one, for j w in place of s.
func (p terms) parts() (re, im terms) {
	for _, t := range p {
		turns := t.pows[0] % 4
		if turns >= 2 {
			t = t.negative()
		}
		if turns%2 == 0 {
			re = append(re, t)
		} else {
			im = append(im, t)
		}
	}
	return re, im
}

// leastSize is the least size of a number in a span whose ends are in order.
func leastSize(a value.Span) value.Num {
	if value.SpanHas(a, value.Int(0)) {
		return value.Int(0)
	}
	return value.Min(value.Abs(a.Lo), value.Abs(a.Hi))
}

// greatestSize is the greatest one.
func greatestSize(a value.Span) value.Num {
	return value.Max(value.Abs(a.Lo), value.Abs(a.Hi))
}
