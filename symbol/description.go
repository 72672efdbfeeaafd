package symbol

import (
	"slices"

	"pentode/api"
	"pentode/poly"
	"pentode/value"
)

// What the equations of a two-port are about, by number.
const (
	v1 = iota
	i1
	v2
	i2
	quantities
)

// description is what stands on both sides of the equations of a kind.
type description struct {
	left, right [2]int
	out         bool // whether the second one on the right side is a current out of the port, the negative of that into it
}

// descriptions has a row for each kind, by its number.
var descriptions = [...]description{
	api.PoZ: {left: [2]int{v1, v2}, right: [2]int{i1, i2}},
	api.PoY: {left: [2]int{i1, i2}, right: [2]int{v1, v2}},
	api.PoH: {left: [2]int{v1, i2}, right: [2]int{i1, v2}},
	api.PoG: {left: [2]int{i1, v2}, right: [2]int{v1, i2}},
	api.PoA: {left: [2]int{v1, i1}, right: [2]int{v2, i2}, out: true},
	api.PoB: {left: [2]int{v2, i2}, right: [2]int{v1, i1}, out: true},
}

// isKind reports whether there are descriptions of a kind.
func isKind(kind int) bool {
	return kind > 0 && kind < len(descriptions)
}

// The polynomials of a port, by number.
const (
	n11 = iota
	n12
	n21
	n22
	below // the denominator
	polynomials
)

// port is a description of a two-port, with numbers in place of texts.
type port struct {
	kind int
	p    [polynomials][]value.Num
}

// portOf returns the port of a description, or the error of one that is not valid.
func portOf(p api.SyPort) (port, api.Errno) {
	if !isKind(p.Kind) {
		return port{}, api.ErrRange
	}
	a := port{kind: p.Kind}
	for i, list := range append(p.N[:], p.D) {
		numbers := make([]value.Num, len(list))
		for k, v := range list {
			x, e := value.Parse(v)
			if e != api.OK {
				return port{}, e
			}
			numbers[k] = x
		}
		a.p[i] = poly.Trim(numbers)
	}
	switch {
	case slices.ContainsFunc(a.p[:], isHigh):
		return port{}, api.ErrLong
	case isZero(a.p[below]):
		return port{}, api.ErrZero
	}
	return a, api.OK
}

// isHigh reports whether the degree of a polynomial of a port is above the limit.
func isHigh(p []value.Num) bool {
	return poly.Deg(p) > api.MaxPoDeg
}

// hasLong reports whether a polynomial has a number with too many digits.
func hasLong(p []value.Num) bool {
	return slices.ContainsFunc(p, func(x value.Num) bool { return value.Digits(x) > api.MaxDigits })
}

// normal returns the normal form, or ErrLong if it is beyond the limits.
func (a port) normal() (port, api.Errno) {
	var common []value.Num
	for _, p := range a.p {
		common, _ = poly.Gcd(common, p)
	}
	highest := poly.Deg(a.p[below])
	unit := over(value.Int(1), a.p[below][highest])
	for i, p := range a.p {
		quotient, _, _ := poly.Div(p, common)
		a.p[i] = poly.Scale(quotient, unit)
	}
	if slices.ContainsFunc(a.p[:], isHigh) || slices.ContainsFunc(a.p[:], hasLong) {
		return port{}, api.ErrLong
	}
	return a, api.OK
}

// written returns a port with texts, unless there is an error.
func written(a port, e api.Errno) (api.SyPort, api.Errno) {
	if e != api.OK {
		return api.SyPort{}, e
	}
	var lists [polynomials][]api.Val
	for i, p := range a.p {
		for _, x := range p {
			lists[i] = append(lists[i], value.Text(x))
		}
	}
	q := api.SyPort{Kind: a.kind, D: lists[below]}
	copy(q.N[:], lists[:below])
	return q, api.OK
}

// equations returns those of a port: what the quantities are multiplied by, so that the sum of all is 0.
func (a port) equations() [2][quantities][]value.Num {
	d := descriptions[a.kind]
	var e [2][quantities][]value.Num
	for i := range e {
		e[i][d.left[i]] = a.p[below]
		e[i][d.right[0]] = opposite(a.p[2*i])
		e[i][d.right[1]] = d.second(opposite(a.p[2*i+1]))
	}
	return e
}

// as returns the description of a kind, in normal form; ErrSingular if there is none.
func (a port) as(kind int) (port, api.Errno) {
	e := a.equations()
	minor := func(x, y int) []value.Num {
		return poly.Sub(poly.Mul(e[0][x], e[1][y]), poly.Mul(e[0][y], e[1][x]))
	}
	d := descriptions[kind]
	b := port{kind: kind}
	b.p[below] = minor(d.left[0], d.left[1])
	if isZero(b.p[below]) {
		return port{}, api.ErrSingular
	}
	// Cramer's rule, with what is on the right side moved to the other one.
	b.p[n11] = minor(d.left[1], d.right[0])
	b.p[n12] = d.second(minor(d.left[1], d.right[1]))
	b.p[n21] = minor(d.right[0], d.left[0])
	b.p[n22] = d.second(minor(d.right[1], d.left[0]))
	return b.normal()
}

// second is what the current into the port is multiplied by, for that on the right side, or the other way round.
func (d description) second(p []value.Num) []value.Num {
	if d.out {
		return opposite(p)
	}
	return p
}

func opposite(p []value.Num) []value.Num {
	return poly.Scale(p, value.Int(-1))
}

// chained is the port whose matrix is the product of those of a and b.
func (a port) chained(b port) port {
	c := port{kind: a.kind}
	for i := range below {
		row, column := 2*(i/2), i%2
		c.p[i] = poly.Add(poly.Mul(a.p[row], b.p[column]), poly.Mul(a.p[row+1], b.p[2+column]))
	}
	c.p[below] = poly.Mul(a.p[below], b.p[below])
	return c
}

// added is the port whose matrix is the sum of those of a and b.
func (a port) added(b port) port {
	c := port{kind: a.kind}
	for i := range below {
		c.p[i] = poly.Add(poly.Mul(a.p[i], b.p[below]), poly.Mul(b.p[i], a.p[below]))
	}
	c.p[below] = poly.Mul(a.p[below], b.p[below])
	return c
}

// isReciprocal reports whether what goes through both ways is the same.
func (a port) isReciprocal() bool {
	p := a.p
	switch a.kind {
	case api.PoZ, api.PoY:
		return isZero(poly.Sub(p[n12], p[n21]))
	case api.PoH, api.PoG:
		return isZero(poly.Add(p[n12], p[n21]))
	}
	determinant := poly.Sub(poly.Mul(p[n11], p[n22]), poly.Mul(p[n12], p[n21]))
	return isZero(poly.Sub(determinant, poly.Mul(p[below], p[below])))
}

func isZero(p []value.Num) bool {
	return len(p) == 0
}
