package points

import (
	"pentode/api"
	"pentode/poly"
	"pentode/value"
)

// curve is a law of pieces between breaks, with their derivatives.
type curve struct {
	breaks         []value.Num
	pieces, slopes [][]value.Num
}

// curveOf returns the curve of a model, which has no pieces if it is another law.
func curveOf(m api.Model) curve {
	var c curve
	for _, b := range m.Breaks {
		c.breaks = append(c.breaks, parsed(b))
	}
	for _, texts := range m.Pieces {
		piece := make([]value.Num, len(texts))
		for i, v := range texts {
			piece[i] = parsed(v)
		}
		c.pieces = append(c.pieces, piece)
		c.slopes = append(c.slopes, poly.Deriv(piece))
	}
	return c
}

// only is the curve with the piece k alone, in place of all of them.
func (c curve) only(k int) curve {
	return curve{pieces: c.pieces[k : k+1], slopes: c.slopes[k : k+1]}
}

// part returns what a span has of the piece k, and whether this is anything.
func (c curve) part(k int, u value.Span) (value.Span, bool) {
	if k > 0 {
		u.Lo = value.Max(u.Lo, c.breaks[k-1])
	}
	if k < len(c.breaks) {
		u.Hi = value.Min(u.Hi, c.breaks[k])
	}
	return u, value.Cmp(u.Lo, u.Hi) <= 0
}

// value is that at a number: of the first piece that holds there.
func (c curve) value(v value.Num) value.Num {
	k := 0
	for k < len(c.breaks) && value.Cmp(v, c.breaks[k]) > 0 {
		k++
	}
	return poly.Eval(c.pieces[k], v)
}

// reach is that over a span.
func (c curve) reach(u value.Span) value.Span {
	return c.join(c.pieces, u)
}

// slope are the slopes over a span.
func (c curve) slope(u value.Span) value.Span {
	return c.join(c.slopes, u)
}

// join is the join of what each of the laws, one for each piece, gives for what a span has of its piece.
func (c curve) join(laws [][]value.Num, u value.Span) value.Span {
	var all value.Span
	some := false
	for k, law := range laws {
		part, ok := c.part(k, u)
		if !ok {
			continue
		}
		s := poly.EvalSpan(law, part)
		if some {
			s = value.SpanJoin(all, s)
		}
		all, some = s, true
	}
	return all
}
