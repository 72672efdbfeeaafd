package symbol

import (
	"pentode/api"
	"pentode/poly"
	"pentode/value"
)

// Port returns the two-port between nodes of a net.
func Port(n api.Net, nodes [4]int) (api.SyPort, api.Errno) {
	c, e := circuitOf(n)
	if e != api.OK {
		return api.SyPort{}, e
	}
	for _, node := range nodes {
		if node < 0 || node > n.Nodes {
			return api.SyPort{}, api.ErrRange
		}
	}
	return c.port(nodes)
}

// port is that between nodes, in normal form: its impedances are voltages for a current 1 into one of its ports.
func (c circuit) port(nodes [4]int) (api.SyPort, api.Errno) {
	s := c.solver(c.push(nodes[0], nodes[1]), c.push(nodes[2], nodes[3]))
	a := port{kind: api.PoZ}
	a.p[below] = s.denominator().inS()
	if isZero(a.p[below]) {
		return api.SyPort{}, api.ErrSingular
	}
	voltage := func(node, right int) []value.Num {
		if node == 0 {
			return nil
		}
		return s.numerator(node-1, right).inS()
	}
	for i := range below {
		side, right := i/2, i%2
		a.p[i] = poly.Sub(voltage(nodes[2*side], right), voltage(nodes[2*side+1], right))
	}
	return written(a.normal())
}

// Normal returns the normal form of a two-port.
func Normal(p api.SyPort) (api.SyPort, api.Errno) {
	a, e := portOf(p)
	if e != api.OK {
		return api.SyPort{}, e
	}
	return written(a.normal())
}

// Convert returns another description of a two-port.
func Convert(p api.SyPort, kind int) (api.SyPort, api.Errno) {
	a, e := portOf(p)
	if e != api.OK {
		return api.SyPort{}, e
	}
	if !isKind(kind) {
		return api.SyPort{}, api.ErrRange
	}
	return written(a.as(kind))
}

// Join returns two two-ports in a chain, in series, or in parallel.
func Join(p, q api.SyPort, kind int) (api.SyPort, api.Errno) {
	a, e := portOf(p)
	if e != api.OK {
		return api.SyPort{}, e
	}
	b, e := portOf(q)
	if e != api.OK {
		return api.SyPort{}, e
	}
	if kind != api.PoA && kind != api.PoZ && kind != api.PoY {
		return api.SyPort{}, api.ErrRange
	}
	a, e = a.as(kind)
	if e != api.OK {
		return api.SyPort{}, e
	}
	b, e = b.as(kind)
	if e != api.OK {
		return api.SyPort{}, e
	}
	if kind == api.PoA {
		return written(a.chained(b).normal())
	}
	return written(a.added(b).normal())
}

// Reciprocal reports whether a two-port is reciprocal.
func Reciprocal(p api.SyPort) (bool, api.Errno) {
	a, e := portOf(p)
	if e != api.OK {
		return false, e
	}
	return a.isReciprocal(), api.OK
}
