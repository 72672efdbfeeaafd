package points

import (
	"slices"

	"pentode/api"
	"pentode/poly"
	"pentode/value"
)

// Small returns the small-signal net at a point.
func Small(n api.Net, x []value.Num) (api.Net, api.Errno) {
	c, e := circuitFor(n, len(x))
	if e != api.OK {
		return api.Net{}, e
	}
	small := api.Net{Nodes: n.Nodes}
	var more []api.Elem
	at := append(make([]value.Num, 1, c.size+1), x...)
	for i, p := range c.parts {
		elems, e := p.small(n.Elems[i], at)
		if e != api.OK {
			return api.Net{}, e
		}
		small.Elems = append(small.Elems, elems[0])
		more = append(more, elems[1:]...)
	}
	if len(small.Elems)+len(more) > api.MaxElems {
		return api.Net{}, api.ErrLong
	}
	small.Elems = append(small.Elems, more...)
	return small, api.OK
}

// small returns the elements for one of the net: the first one stands in its place, others are appended.
func (p part) small(e api.Elem, at []value.Num) ([]api.Elem, api.Errno) {
	switch e.Kind {
	case api.ElV, api.ElI:
		e.Val = "0"
	case api.ElD, api.ElQ:
		slope := p.curve.slope(value.Point(value.Sub(at[p.a], at[p.b])))
		switch {
		case value.Cmp(slope.Lo, slope.Hi) != 0:
			return nil, ErrEdge
		case e.Kind == api.ElQ && value.Sign(slope.Lo) <= 0:
			return nil, api.ErrRange
		case isLong(slope.Lo):
			return nil, api.ErrLong
		case e.Kind == api.ElQ:
			e = api.Elem{Kind: api.ElC, A: e.A, B: e.B, Val: value.Text(slope.Lo)}
		default:
			e = source(e.A, e.B, e.A, e.B, slope.Lo)
		}
	case api.ElM:
		atSource, atDrain := gates(p, numbers{}, at)
		byGate, byDrain := value.Mul(p.val, value.Sub(atSource, atDrain)), value.Mul(p.val, atDrain)
		if isLong(byGate) || isLong(byDrain) {
			return nil, api.ErrLong
		}
		return []api.Elem{source(e.A, e.B, e.C, e.B, byGate), source(e.A, e.B, e.A, e.B, byDrain)}, api.OK
	}
	return []api.Elem{e}, api.OK
}

// source is a source of current that a voltage controls.
func source(a, b, c, d int, slope value.Num) api.Elem {
	return api.Elem{Kind: api.ElG, A: a, B: b, C: c, D: d, Val: value.Text(slope)}
}

// Char returns the characteristic polynomial of a linear net.
func Char(n api.Net) ([]value.Num, api.Errno) {
	c, e := circuitOf(n)
	if e != api.OK {
		return nil, e
	}
	isCurved := func(p part) bool { return p.kind == api.ElD || p.kind == api.ElM || p.kind == api.ElQ }
	if slices.ContainsFunc(c.parts, isCurved) {
		return nil, api.ErrForm
	}
	// A polynomial is known by its values at one number more than its degree, here from 0 on.
	m, stores := c.linear(), c.stores()
	values := []value.Num{determinant(m)}
	for range c.degree() {
		for i, row := range m {
			for k := range row {
				row[k] = value.Add(row[k], stores[i][k])
			}
		}
		values = append(values, determinant(m))
	}
	return through(values), api.OK
}

// degree is how high powers of s are in the characteristic polynomial at most.
func (c circuit) degree() int {
	count := 0
	for _, p := range c.parts {
		if p.kind == api.ElC || p.kind == api.ElL {
			count++
		}
	}
	return min(count, c.size)
}

// stores is what s is multiplied by in the matrix of the characteristic polynomial.
func (c circuit) stores() [][]value.Num {
	rows := matrix[value.Num](c.size+1, c.size+1)
	add := func(row, column int, x value.Num) {
		rows[row][column] = value.Add(rows[row][column], x)
	}
	for _, p := range c.parts {
		less := value.Neg(p.val)
		switch p.kind {
		case api.ElC:
			add(p.a, p.a, p.val)
			add(p.a, p.b, less)
			add(p.b, p.a, less)
			add(p.b, p.b, p.val)
		case api.ElL:
			add(p.own, p.own, less)
		}
	}
	return withoutGround(rows)
}

// through returns the polynomial with these values at 0, 1, 2 and so on, by Newton's differences.
func through(values []value.Num) []value.Num {
	differences := slices.Clone(values)
	for order := 1; order < len(values); order++ {
		for i := len(values) - 1; i >= order; i-- {
			difference := value.Sub(differences[i], differences[i-1])
			differences[i] = over(difference, value.Int(int64(order)))
		}
	}
	var p []value.Num
	for i, d := range slices.Backward(differences) {
		factor := []value.Num{value.Int(int64(-i)), value.Int(1)}
		p = poly.Add(poly.Mul(p, factor), []value.Num{d})
	}
	return p
}

// Stable counts the natural frequencies to the right of the imaginary axis, and on it.
func Stable(n api.Net, x []value.Num) (right, axis int, e api.Errno) {
	small, e := Small(n, x)
	if e != api.OK {
		return 0, 0, e
	}
	p, _ := Char(small)
	if len(p) == 0 {
		return 0, 0, api.ErrSingular
	}
	return poly.Routh(p)
}
