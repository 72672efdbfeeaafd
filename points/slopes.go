package points

import (
	"pentode/api"
	"pentode/value"
)

// slope is that by the unknown at a place.
type slope struct {
	by int
	s  value.Span
}

// slopes returns those of the equations over a box.
func (c circuit) slopes(box []value.Span) [][]value.Span {
	at := append(make([]value.Span, 1, c.size+1), box...)
	rows := matrix[value.Span](c.size+1, c.size+1)
	for _, p := range c.parts {
		for _, by := range p.currentSlopes(at) {
			rows[p.a][by.by] = value.SpanAdd(rows[p.a][by.by], by.s)
			rows[p.b][by.by] = value.SpanSub(rows[p.b][by.by], by.s)
		}
		if p.own > 0 {
			for _, by := range p.lawSlopes() {
				rows[p.own][by.by] = value.SpanAdd(rows[p.own][by.by], by.s)
			}
		}
	}
	return withoutGround(rows)
}

// currentSlopes are those of the current of an element.
func (p part) currentSlopes(at []value.Span) []slope {
	switch p.kind {
	case api.ElG:
		return along(p.c, p.d, value.Point(p.val))
	case api.ElF:
		return []slope{{p.ref, value.Point(p.val)}}
	case api.ElD:
		return along(p.a, p.b, p.curve.slope(value.SpanSub(at[p.a], at[p.b])))
	case api.ElM:
		source, drain := gates(p, spans{}, at)
		return []slope{
			{p.a, spans{}.scale(p.val, drain)},
			{p.c, spans{}.scale(p.val, value.SpanSub(source, drain))},
			{p.b, value.SpanNeg(spans{}.scale(p.val, source))},
		}
	case api.ElL, api.ElV, api.ElE, api.ElH:
		return []slope{{p.own, one()}}
	}
	return nil
}

// lawSlopes are those of the equation of an element that carries a current of its own.
func (p part) lawSlopes() []slope {
	slopes := along(p.a, p.b, one())
	less := value.SpanNeg(value.Point(p.val))
	switch p.kind {
	case api.ElE:
		slopes = append(slopes, along(p.c, p.d, less)...)
	case api.ElH:
		slopes = append(slopes, slope{p.ref, less})
	}
	return slopes
}

// along are the slopes of what depends on the voltage between two nodes.
func along(from, to int, s value.Span) []slope {
	return []slope{{from, s}, {to, value.SpanNeg(s)}}
}

func one() value.Span {
	return value.Point(value.Int(1))
}

// withoutGround cuts off the first row and the first column.
func withoutGround[T any](rows [][]T) [][]T {
	rows = rows[1:len(rows):len(rows)]
	for i, row := range rows {
		rows[i] = row[1:len(row):len(row)]
	}
	return rows
}
