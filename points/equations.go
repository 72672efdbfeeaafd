package points

import (
	"pentode/api"
	"pentode/value"
)

// arithmetic is what equations are computed with: numbers, or spans of numbers. The zero value of T is 0.
type arithmetic[T any] interface {
	of(x value.Num) T
	add(a, b T) T
	sub(a, b T) T
	scale(k value.Num, a T) T
	beyond(a T, low value.Num) T // how far a is above low; 0 if it is not
	square(a T) T
	curve(c curve, a T) T
}

// equations returns the values of the equations for all unknowns.
func equations[T any](c circuit, a arithmetic[T], x []T) []T {
	at := make([]T, 1, c.size+1) // the voltage of the ground is 0
	at = append(at, x...)
	values := make([]T, c.size+1)
	for _, p := range c.parts {
		i := current(p, a, at)
		values[p.a] = a.add(values[p.a], i)
		values[p.b] = a.sub(values[p.b], i)
		if p.own > 0 {
			values[p.own] = law(p, a, at)
		}
	}
	return values[1:]
}

// current is that of an element, from its node A to its node B.
func current[T any](p part, a arithmetic[T], at []T) T {
	switch p.kind {
	case api.ElI:
		return a.of(p.val)
	case api.ElG:
		return a.scale(p.val, a.sub(at[p.c], at[p.d]))
	case api.ElF:
		return a.scale(p.val, at[p.ref])
	case api.ElD:
		return a.curve(p.curve, a.sub(at[p.a], at[p.b]))
	case api.ElM:
		source, drain := gates(p, a, at)
		return a.scale(value.Mul(p.val, half()), a.sub(a.square(source), a.square(drain)))
	case api.ElL, api.ElV, api.ElE, api.ElH:
		return at[p.own]
	}
	return a.of(value.Int(0))
}

// gates is how far a transistor conducts at its source, and at its drain: its current is the difference of what the squares
// of both give.
func gates[T any](p part, a arithmetic[T], at []T) (source, drain T) {
	return a.beyond(a.sub(at[p.c], at[p.b]), p.low), a.beyond(a.sub(at[p.c], at[p.a]), p.low)
}

// law is the equation of an element that carries a current of its own.
func law[T any](p part, a arithmetic[T], at []T) T {
	volts := a.sub(at[p.a], at[p.b])
	switch p.kind {
	case api.ElV:
		return a.sub(volts, a.of(p.val))
	case api.ElE:
		return a.sub(volts, a.scale(p.val, a.sub(at[p.c], at[p.d])))
	case api.ElH:
		return a.sub(volts, a.scale(p.val, at[p.ref]))
	}
	return volts
}

func half() value.Num {
	return over(value.Int(1), value.Int(2))
}

// numbers is the arithmetic of numbers.
type numbers struct{}

func (numbers) of(x value.Num) value.Num          { return x }
func (numbers) add(a, b value.Num) value.Num      { return value.Add(a, b) }
func (numbers) sub(a, b value.Num) value.Num      { return value.Sub(a, b) }
func (numbers) scale(k, a value.Num) value.Num    { return value.Mul(k, a) }
func (numbers) beyond(a, low value.Num) value.Num { return value.Max(value.Sub(a, low), value.Int(0)) }
func (numbers) square(a value.Num) value.Num      { return value.Mul(a, a) }
func (numbers) curve(c curve, a value.Num) value.Num {
	return c.value(a)
}

// spans is the arithmetic of spans.
type spans struct{}

func (spans) of(x value.Num) value.Span      { return value.Point(x) }
func (spans) add(a, b value.Span) value.Span { return value.SpanAdd(a, b) }
func (spans) sub(a, b value.Span) value.Span { return value.SpanSub(a, b) }
func (spans) square(a value.Span) value.Span { return value.SpanPow(a, 2) }
func (spans) scale(k value.Num, a value.Span) value.Span {
	return value.SpanMul(value.Point(k), a)
}
func (spans) beyond(a value.Span, low value.Num) value.Span {
	return value.Span{Lo: numbers{}.beyond(a.Lo, low), Hi: numbers{}.beyond(a.Hi, low)}
}
func (spans) curve(c curve, a value.Span) value.Span {
	return c.reach(a)
}
