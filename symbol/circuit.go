package symbol

import (
	"slices"

	"pentode/api"
	"pentode/net"
	"pentode/value"
)

// circuit is a linear net.
type circuit struct {
	elems []api.Elem
	size  int   // how many unknowns there are
	own   []int // for each element that carries a current of its own the number of this unknown
	vars  []int // for each element the variable that stands for its value, or 0, which is none, as it stands for s
}

// circuitOf returns the circuit of a net, or the error with which all functions of a net begin.
func circuitOf(n api.Net) (circuit, api.Errno) {
	carriers, e := net.Unknowns(n)
	switch {
	case e != api.OK:
		return circuit{}, e
	case slices.ContainsFunc(n.Elems, isCurved):
		return circuit{}, api.ErrForm
	case n.Nodes+len(carriers) > api.MaxUnknowns:
		return circuit{}, api.ErrLong
	}
	c := circuit{elems: n.Elems, size: n.Nodes + len(carriers), own: make([]int, len(n.Elems)), vars: make([]int, len(n.Elems))}
	for k, elem := range carriers {
		c.own[elem] = n.Nodes + k
	}
	return c, api.OK
}

// circuitFor returns the circuit of a task, or the error with which all functions of a task begin.
func circuitFor(t api.SyTask) (circuit, api.Errno) {
	c, e := circuitOf(t.Net)
	switch {
	case e != api.OK:
		return circuit{}, e
	case len(t.Syms) > api.MaxSyms:
		return circuit{}, api.ErrLong
	}
	for i, elem := range t.Syms {
		switch {
		case !c.has(elem) || isSource(c.elems[elem]) || isOpen(c.elems[elem]):
			return circuit{}, api.ErrRange
		case c.vars[elem] > 0:
			return circuit{}, api.ErrArg
		}
		c.vars[elem] = 1 + i
	}
	if !c.has(t.In) || !isSource(c.elems[t.In]) || t.Out < 0 || t.Out >= c.size {
		return circuit{}, api.ErrRange
	}
	return c, api.OK
}

// has reports whether there is an element with this number.
func (c circuit) has(elem int) bool {
	return elem >= 0 && elem < len(c.elems)
}

// isCurved reports whether the law of an element is not linear.
func isCurved(e api.Elem) bool {
	return e.Kind == api.ElD || e.Kind == api.ElM || e.Kind == api.ElQ
}

// isSource reports whether an element can be the source of a task.
func isSource(e api.Elem) bool {
	return e.Kind == api.ElV || e.Kind == api.ElI
}

// isOpen reports whether an element is a switch that is open, which gives nothing to the equations.
func isOpen(e api.Elem) bool {
	return e.Kind == api.ElS && e.Ref == 0
}

// withoutSymbols is the circuit with the values that its elements have.
func (c circuit) withoutSymbols() circuit {
	c.vars = make([]int, len(c.elems))
	return c
}

// factor is what stands for an element in the equations: its value, or of a resistor its conductance, or the symbol in place of
// these; and times s for what stores charge or flux.
func (c circuit) factor(elem int) term {
	e, t := c.elems[elem], one()
	if v := c.vars[elem]; v > 0 {
		t.pows[v] = 1
	} else {
		t.coef, _ = value.Parse(e.Val)
		if e.Kind == api.ElR || e.Kind == api.ElS {
			t.coef = over(value.Int(1), t.coef)
		}
	}
	if e.Kind == api.ElC || e.Kind == api.ElL {
		t.pows[0] = 1
	}
	return t
}

// right is the right side of the equations for a source.
func (c circuit) right(source int) []value.Num {
	e := c.elems[source]
	if e.Kind == api.ElI {
		return c.push(e.B, e.A)
	}
	right := make([]value.Num, c.size)
	right[c.own[source]] = value.Int(1)
	return right
}

// push is the right side for a current 1 that flows into the net at one node, and out of it at another one.
func (c circuit) push(into, out int) []value.Num {
	at := make([]value.Num, 1+c.size) // the ground is in front
	at[into] = value.Add(at[into], value.Int(1))
	at[out] = value.Sub(at[out], value.Int(1))
	return at[1:]
}
