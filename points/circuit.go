package points

import (
	"pentode/api"
	"pentode/net"
	"pentode/value"
)

// circuit is a net as the equations need it, with numbers in place of texts.
//
// Lists of its unknowns have places: the ground has the place 0, and the unknown k the place k + 1. So a node is at its
// own place, and the ground needs no case of its own; what would be its equation is cut off in the end.
type circuit struct {
	size  int // how many unknowns there are
	parts []part
}

// part is an element. Resistors, and switches that are closed, are sources of current that their own voltage controls.
type part struct {
	kind       int
	a, b, c, d int
	own        int // the place of its current, if it is an unknown
	ref        int // the place of the current of the element that it refers to
	val        value.Num
	low        value.Num // from which voltage at its gate on a transistor conducts
	curve      curve
}

// circuitOf returns the circuit of a net, or the error with which all functions of a net begin.
func circuitOf(n api.Net) (circuit, api.Errno) {
	own, e := net.Unknowns(n)
	if e != api.OK {
		return circuit{}, e
	}
	c := circuit{size: n.Nodes + len(own)}
	if c.size > api.MaxUnknowns {
		return circuit{}, api.ErrLong
	}
	places := make([]int, len(n.Elems))
	for k, elem := range own {
		places[elem] = n.Nodes + 1 + k
	}
	curves := make([]curve, len(n.Models))
	for i, m := range n.Models {
		curves[i] = curveOf(m)
	}
	for i, e := range n.Elems {
		p := part{kind: e.Kind, a: e.A, b: e.B, c: e.C, d: e.D, own: places[i], val: parsed(e.Val)}
		switch {
		case e.Kind == api.ElR, e.Kind == api.ElS && e.Ref == 1:
			p.kind, p.c, p.d = api.ElG, p.a, p.b
			p.val = over(value.Int(1), p.val)
		case e.Kind == api.ElF, e.Kind == api.ElH:
			p.ref = places[e.Ref]
		case e.Kind == api.ElD, e.Kind == api.ElQ:
			p.curve = curves[e.Model]
		case e.Kind == api.ElM:
			p.val, p.low = parsed(n.Models[e.Model].Kp), parsed(n.Models[e.Model].Vt)
		}
		c.parts = append(c.parts, p)
	}
	return c, api.OK
}

// circuitFor is circuitOf for lists that have to have a part for each unknown.
func circuitFor(n api.Net, lengths ...int) (circuit, api.Errno) {
	c, e := circuitOf(n)
	if e != api.OK {
		return circuit{}, e
	}
	for _, length := range lengths {
		if length != c.size {
			return circuit{}, api.ErrArg
		}
	}
	return c, api.OK
}

// parsed returns the number of a text that is valid, and 0 for one that is empty.
func parsed(v api.Val) value.Num {
	x, _ := value.Parse(v)
	return x
}

// over is x divided by y, which is not 0.
func over(x, y value.Num) value.Num {
	quotient, _ := value.Div(x, y)
	return quotient
}
