package filter

import (
	"slices"

	"pentode/api"
	"pentode/value"
)

// circuit is a net that is made element by element, and the first error of a Val in it.
type circuit struct {
	net   api.Net
	fault api.Errno
}

// add adds elements, and the nodes that they have.
func (c *circuit) add(elems ...api.Elem) {
	c.net.Elems = append(c.net.Elems, elems...)
	for _, x := range elems {
		c.net.Nodes = max(c.net.Nodes, x.A, x.B)
		if c.fault == api.OK {
			c.fault = value.Check(x.Val)
		}
	}
}

// result is the net, unless a Val in it is too long.
func (c *circuit) result() (api.Net, api.Errno) {
	if c.fault != api.OK {
		return api.Net{}, c.fault
	}
	return c.net, api.OK
}

// source is where the signal of a filter comes from.
func source() api.Elem {
	return api.Elem{Kind: api.ElV, A: 1, Val: "1"}
}

// Net returns the net of a ladder.
func Net(q []value.Num, r, w value.Num) (api.Net, api.Errno) {
	if len(q) == 0 || len(q) > api.MaxLadder || !isAbove0(q...) || !isAbove0(r, w) {
		return api.Net{}, api.ErrRange
	}
	var c circuit
	c.add(source())
	isAcross := false
	for _, x := range slices.Backward(q) {
		c.add(rung(x, r, w, c.net.Nodes, isAcross))
		isAcross = !isAcross
	}
	c.add(api.Elem{Kind: api.ElR, A: c.net.Nodes, Val: value.Text(r)})
	return c.result()
}

// rung is the next element of a ladder, behind its highest node so far: a capacitor across the line, or an inductor along it.
func rung(q, r, w value.Num, node int, isAcross bool) api.Elem {
	if isAcross {
		return api.Elem{Kind: api.ElC, A: node, Val: value.Text(over(q, value.Mul(r, w)))}
	}
	return api.Elem{Kind: api.ElL, A: node, B: node + 1, Val: value.Text(over(value.Mul(q, r), w))}
}

// Chain returns the net of sections of the second order.
func Chain(l [][2]value.Num) (api.Net, api.Errno) {
	isWrong := func(section [2]value.Num) bool { return !isAbove0(section[:]...) }
	if len(l) == 0 || len(l) > api.MaxSections || slices.ContainsFunc(l, isWrong) {
		return api.Net{}, api.ErrRange
	}
	var c circuit
	c.add(source())
	for _, section := range l {
		in := c.net.Nodes
		a, b, out := in+1, in+2, in+3
		two := value.Int(2)
		forward := over(two, section[0])
		across := over(section[0], value.Mul(two, section[1]))
		c.add(
			api.Elem{Kind: api.ElR, A: in, B: a, Val: "1"},
			api.Elem{Kind: api.ElR, A: a, B: b, Val: "1"},
			api.Elem{Kind: api.ElC, A: a, B: out, Val: value.Text(forward)},
			api.Elem{Kind: api.ElC, A: b, Val: value.Text(across)},
			api.Elem{Kind: api.ElE, A: out, C: b, Val: "1"},
		)
	}
	return c.result()
}
