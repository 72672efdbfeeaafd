package probe

import (
	"pentode/api"
	"pentode/spread"
	"pentode/value"
)

// lone is a net in which a single element has any value in a span.
type lone struct {
	task api.SpTask
	x    value.Span
}

// lone is the net of a task with an element and its range, or the error of that.
func (k task) lone(elem int, r api.Range) (lone, api.Errno) {
	s := api.SpTask{Net: k.Net, Elems: []int{elem}, Ranges: []api.Range{r}, Out: k.Outs[0]}
	if e := spread.Check(s); e != api.OK {
		return lone{}, e
	}
	x, e := value.SpanOf(r)
	return lone{s, x}, e
}

// fit are the numbers of the element for which each of some unknowns has a value in a span of its own.
func (l lone) fit(outs []int, senses []value.Span) (value.Span, api.Errno) {
	if is, _ := spread.Regular(l.task); !is {
		return value.Span{}, api.ErrSingular
	}
	fit := l.x
	for i, out := range outs {
		fits, ok := l.curve(out).back(senses[i])
		if ok {
			fit, ok = value.SpanMeet(fit, fits)
		}
		if !ok {
			return value.Span{}, api.ErrNone
		}
	}
	return fit, api.OK
}

// curve is how a value y depends on the number x of an element. Both the value times a determinant and this determinant are linear
// in x (for resistors, too, if they are multiplied by x), and the determinant keeps its sign. So the value of x that is
// t of the way from the lower end to the upper one is a mean of those at both ends, with the weights 1 - t and t times a
// weight above 0: it goes straight from one to the other, up or down.
type curve struct {
	x           value.Span
	first, last value.Num // y at the ends of x
	weight      value.Num // of the last one; it is not needed if both are the same
}

func (l lone) curve(out int) curve {
	l.task.Out = out
	at := func(x value.Num) value.Num {
		y, _ := spread.At(l.task, []value.Num{x})
		return y
	}
	c := curve{x: l.x, first: at(l.x.Lo), last: at(l.x.Hi)}
	if c.isFlat() {
		return c
	}
	middle := at(value.SpanMid(l.x))
	c.weight = over(value.Sub(middle, c.first), value.Sub(c.last, middle))
	return c
}

func (c curve) isFlat() bool {
	return value.Cmp(c.first, c.last) == 0
}

// back are all x whose values are in a span, and whether there are any.
func (c curve) back(y value.Span) (value.Span, bool) {
	y, ok := value.SpanMeet(y, value.SpanJoin(value.Point(c.first), value.Point(c.last)))
	switch {
	case !ok:
		return value.Span{}, false
	case c.isFlat():
		return c.x, true
	}
	return value.SpanJoin(value.Point(c.where(y.Lo)), value.Point(c.where(y.Hi))), true
}

// where is the x with a value from the first to the last one.
func (c curve) where(y value.Num) value.Num {
	toLast := value.Sub(y, c.first)
	toFirst := value.Mul(c.weight, value.Sub(c.last, y))
	sum := value.Add(value.Mul(c.x.Lo, toFirst), value.Mul(c.x.Hi, toLast))
	return over(sum, value.Add(toFirst, toLast))
}
