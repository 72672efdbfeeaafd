package symbol

import (
	"pentode/api"
	"pentode/value"
)

// Matrix returns the matrix of the equations of a task, and their right side.
func Matrix(t api.SyTask) (m [][][]api.SyTerm, right []value.Num, e api.Errno) {
	c, e := circuitFor(t)
	if e != api.OK {
		return nil, nil, e
	}
	for _, row := range c.matrix().rows() {
		var entries [][]api.SyTerm
		for _, p := range row {
			entry, e := p.written(1 + len(t.Syms))
			if e != api.OK {
				return nil, nil, e
			}
			entries = append(entries, entry)
		}
		m = append(m, entries)
	}
	return m, c.right(t.In), api.OK
}

// Transfer returns a transfer function.
func Transfer(t api.SyTask) (num, den []api.SyTerm, e api.Errno) {
	c, e := circuitFor(t)
	if e != api.OK {
		return nil, nil, e
	}
	n, d, e := c.transfer(t)
	if e != api.OK {
		return nil, nil, e
	}
	return bothWritten(n, d, 1+len(t.Syms))
}

// Ratio returns a transfer function for the values of the net.
func Ratio(t api.SyTask) (num, den []value.Num, e api.Errno) {
	c, e := circuitFor(t)
	if e != api.OK {
		return nil, nil, e
	}
	n, d, e := c.withoutSymbols().transfer(t)
	if e != api.OK {
		return nil, nil, e
	}
	return n.inS(), d.inS(), api.OK
}

// Sense returns the sensitivity of a transfer function to a variable.
func Sense(num, den []api.SyTerm, vars, v int) (top, bottom []api.SyTerm, e api.Errno) {
	n, d, e := bothCanonical(num, den, vars)
	switch {
	case e != api.OK:
		return nil, nil, e
	case v < 0 || v >= vars:
		return nil, nil, api.ErrRange
	case len(n) == 0 || len(d) == 0:
		return nil, nil, api.ErrZero
	}
	product, e := n.times(d)
	if e != api.OK || product.isLong() {
		return nil, nil, api.ErrLong
	}
	s := sum{}
	s.addProduct(n.derivative(v), d)
	s.addProduct(n.negative(), d.derivative(v))
	slope := s.terms()
	for i := range slope {
		slope[i].pows[v]++
	}
	return bothWritten(slope, product, vars)
}

// transfer returns the numerator and the denominator for a task, or ErrSingular if the denominator is 0.
func (c circuit) transfer(t api.SyTask) (num, den terms, e api.Errno) {
	s := c.solver(c.right(t.In))
	den = s.denominator()
	if len(den) == 0 {
		return nil, nil, api.ErrSingular
	}
	part := over(value.Int(1), s.unit)
	return s.numerator(t.Out, 0).scaled(part), den.scaled(part), api.OK
}

// inS is a polynomial in s alone as a list of coefficients.
func (p terms) inS() []value.Num {
	if len(p) == 0 {
		return nil
	}
	list := make([]value.Num, p[len(p)-1].pows[0]+1)
	for _, t := range p {
		list[t.pows[0]] = t.coef
	}
	return list
}

// over is x divided by y, which is not 0.
func over(x, y value.Num) value.Num {
	quotient, _ := value.Div(x, y)
	return quotient
}
