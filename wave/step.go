package wave

import (
	"slices"

	"pentode/api"
	"pentode/points"
	"pentode/value"
)

// step is a step of a net from the numbers x, with the length h.
type step struct {
	api.Net
	store
	x, before []value.Num // before is what is stored at its beginning
	h         value.Num
}

func stepOf(n api.Net, x []value.Num, h value.Num) step {
	s := storeOf(n)
	return step{Net: n, store: s, x: x, before: s.stored(x), h: h}
}

// residual is that of the step to y.
func (s step) residual(y []value.Num) []value.Num {
	r, _ := points.Residual(s.Net, y)
	for k, now := range s.stored(y) {
		r[k] = value.Add(r[k], over(value.Sub(now, s.before[k]), s.h))
	}
	return r
}

// slopes are those of the residual by y.
func (s step) slopes(y []value.Num) [][]value.Num {
	m := middles(s.Net, y)
	for i, row := range s.storedSlopes(y) {
		for k, slope := range row {
			m[i][k] = value.Add(m[i][k], over(slope, s.h))
		}
	}
	return m
}

// implicit makes the step by the implicit rule of Euler: its end begins as x, and is changed, as Newton does, until the residual is
// near 0.
func (s step) implicit(tol value.Num, bits int) (y, r []value.Num, err error) {
	for _, x := range s.x {
		y = append(y, value.Max(x, x)) // which is in memory of its own
	}
	for changes := 0; ; changes++ {
		r = s.residual(y)
		if areNear(r, tol) {
			return y, r, nil
		}
		if changes == api.MaxNewton {
			return nil, nil, failure{"a residual", changes}
		}
		d, e := points.Solve(s.slopes(y), r)
		if e != api.OK {
			return nil, nil, failure{"slopes without an inverse", changes}
		}
		for i := range y {
			y[i] = value.Down(value.Sub(y[i], d[i]), bits)
		}
	}
}

// areNear reports whether all numbers are at most so far from 0.
func areNear(list []value.Num, tol value.Num) bool {
	return !slices.ContainsFunc(list, func(x value.Num) bool { return value.Cmp(value.Abs(x), tol) > 0 })
}

// power is that of all elements together at y: what the nodes give them.
func (s step) power(y []value.Num) value.Num {
	var sum value.Num
	for k, current := range s.residual(y)[:s.Nodes] {
		sum = value.Add(sum, value.Mul(y[k], current))
	}
	return sum
}

// alone is a net with the same unknowns, in which nothing but one element does anything.
func alone(n api.Net, elem int) api.Net {
	one := api.Net{Nodes: n.Nodes, Models: n.Models}
	for i, e := range n.Elems {
		if i != elem {
			e = idle(e)
		}
		one.Elems = append(one.Elems, e)
	}
	return one
}

// idle stands in the place of an element, and does nothing, as both its ends are the ground. It has a current of its own if
// the element has one.
func idle(e api.Elem) api.Elem {
	switch e.Kind {
	case api.ElL, api.ElV, api.ElE, api.ElH:
		return api.Elem{Kind: api.ElL, Val: "1"}
	}
	return api.Elem{Kind: api.ElS, Val: "1"}
}

// store is what a net stores. This is told by another net with the same unknowns, whose currents are charges, and whose voltages are
// fluxes, with the other sign: so package points knows all charges of a node, and their slopes.
type store struct {
	charges api.Net
}

func storeOf(n api.Net) store {
	charges := api.Net{Nodes: n.Nodes, Models: n.Models}
	for i, e := range n.Elems {
		charges.Elems = append(charges.Elems, storing(i, e))
	}
	return store{charges}
}

// storing stands in the place of an element, with its charge as a current, or its flux in its equation.
func storing(elem int, e api.Elem) api.Elem {
	switch e.Kind {
	case api.ElC:
		return api.Elem{Kind: api.ElG, A: e.A, B: e.B, C: e.A, D: e.B, Val: e.Val}
	case api.ElQ:
		return api.Elem{Kind: api.ElD, A: e.A, B: e.B, Model: e.Model}
	case api.ElL:
		return api.Elem{Kind: api.ElH, Ref: elem, Val: e.Val}
	}
	return idle(e)
}

// stored is how much is stored, for each equation.
func (s store) stored(x []value.Num) []value.Num {
	sums, _ := points.Residual(s.charges, x)
	return sums
}

// storedSlopes are the slopes of what is stored.
func (s store) storedSlopes(x []value.Num) [][]value.Num {
	return middles(s.charges, x)
}

// middles are those of the slopes of a net at numbers for its unknowns.
func middles(n api.Net, x []value.Num) [][]value.Num {
	box := make([]value.Span, len(x))
	for k := range x {
		box[k] = value.Point(x[k])
	}
	slopes, _ := points.Slopes(n, box)
	m := make([][]value.Num, len(slopes))
	for i, row := range slopes {
		for _, s := range row {
			m[i] = append(m[i], value.SpanMid(s))
		}
	}
	return m
}
