package spread

import (
	"slices"

	"pentode/api"
	"pentode/net"
	"pentode/value"
)

// task is a task with numbers in place of texts.
type task struct {
	net    api.Net
	size   int // how many unknowns there are
	out    int
	params []param
}

// param is a parameter: its element, and its range.
type param struct {
	elem    int
	inverse bool // whether the reciprocal of its number is what the equations have: it has to be above 0
	ends    value.Span
}

// taskOf reads a task, or returns the error with which all functions begin.
func taskOf(from api.SpTask) (task, api.Errno) {
	own, e := net.Unknowns(from.Net)
	t := task{net: from.Net, size: from.Net.Nodes + len(own), out: from.Out}
	switch {
	case e != api.OK:
		return task{}, e
	case slices.ContainsFunc(from.Net.Elems, isCurved):
		return task{}, api.ErrForm
	case t.size > api.MaxUnknowns || len(from.Elems) > api.MaxSpread:
		return task{}, api.ErrLong
	case len(from.Ranges) != len(from.Elems):
		return task{}, api.ErrArg
	}
	for i, elem := range from.Elems {
		if e := t.addParam(elem, from.Ranges[i]); e != api.OK {
			return task{}, e
		}
	}
	if t.out < 0 || t.out >= t.size {
		return task{}, api.ErrRange
	}
	return t, api.OK
}

// taskWith reads a task and a range for its value.
func taskWith(from api.SpTask, spec api.Range) (task, limits, api.Errno) {
	t, e := taskOf(from)
	if e != api.OK {
		return task{}, limits{}, e
	}
	s, e := value.SpanOf(spec)
	if e != api.OK {
		return task{}, limits{}, e
	}
	return t, limits{quotientOf(s.Lo), quotientOf(s.Hi)}, api.OK
}

// isCurved reports whether the law of an element is not linear.
func isCurved(e api.Elem) bool {
	return e.Kind == api.ElD || e.Kind == api.ElM || e.Kind == api.ElQ
}

// isIdle reports whether direct current does not depend on the Val of an element.
func isIdle(e api.Elem) bool {
	return e.Kind == api.ElC || e.Kind == api.ElL || e.Kind == api.ElS && e.Ref == 0
}

// addParam reads the next parameter.
func (t *task) addParam(elem int, r api.Range) api.Errno {
	isSame := func(earlier param) bool { return earlier.elem == elem }
	switch {
	case elem < 0 || elem >= len(t.net.Elems) || isIdle(t.net.Elems[elem]):
		return api.ErrRange
	case slices.ContainsFunc(t.params, isSame):
		return api.ErrArg
	}
	lo, e := value.Parse(r.Lo)
	if e != api.OK {
		return e
	}
	hi, e := value.Parse(r.Hi)
	if e != api.OK {
		return e
	}
	kind := t.net.Elems[elem].Kind
	p := param{elem, kind == api.ElR || kind == api.ElS, value.Span{Lo: lo, Hi: hi}}
	switch {
	case value.Digits(lo) > api.MaxSpDig || value.Digits(hi) > api.MaxSpDig:
		return api.ErrLong
	case value.Cmp(lo, hi) > 0 || !p.accepts(lo):
		return api.ErrRange
	}
	t.params = append(t.params, p)
	return api.OK
}

// accepts reports whether a number can be that of the parameter.
func (p param) accepts(x value.Num) bool {
	return !p.inverse || value.Sign(x) > 0
}

// factor is that of the parameter for a number; its bottom is above 0.
func (p param) factor(x value.Num) quotient {
	q := quotientOf(x)
	if p.inverse {
		return q.inverse()
	}
	return q
}

// factorSlope is the derivative of the factor of the parameter by its number.
func (p param) factorSlope(x value.Num) value.Num {
	if p.inverse {
		return over(value.Int(-1), value.Mul(x, x))
	}
	return value.Int(1)
}

// box is that of the task.
func (t task) box() []value.Span {
	var box []value.Span
	for _, p := range t.params {
		box = append(box, p.ends)
	}
	return box
}
