package spread

import (
	"slices"

	"pentode/api"
	"pentode/points"
	"pentode/value"
)

// equations are those of the net of a task: a row for each has its slopes by all unknowns, and its right side behind them. They
// are linear in the factor of each parameter, which is its number, or the reciprocal of it if this is what they have.
type equations struct {
	fixed  [][]value.Num // the rows if all factors are 0
	shares []share
}

// share is what the factor of a parameter is multiplied by in the equations: a row, and this again in each of the equations by a number.
// (A parameter is in the equation of its own current alone, or with opposite signs in those of its nodes.) None is a fraction.
type share struct {
	row    []value.Num
	column []value.Num
}

func (t task) equations() equations {
	without := t.net
	without.Elems = slices.Clone(t.net.Elems)
	for _, p := range t.params {
		without.Elems[p.elem] = withFactor0(without.Elems[p.elem])
	}
	q := equations{fixed: rowsOf(without, t.size)}
	for _, p := range t.params {
		with := without
		with.Elems = slices.Clone(without.Elems)
		with.Elems[p.elem] = t.net.Elems[p.elem]
		with.Elems[p.elem].Val = "1"
		q.shares = append(q.shares, shareOf(q.fixed, rowsOf(with, t.size)))
	}
	return q
}

// withFactor0 stands in the place of an element. No resistor has the factor 0, but an open switch is as if it had.
func withFactor0(e api.Elem) api.Elem {
	if e.Kind == api.ElR || e.Kind == api.ElS {
		return api.Elem{Kind: api.ElS, A: e.A, B: e.B, Val: "1"}
	}
	e.Val = "0"
	return e
}

// rowsOf are the rows of a linear net, whose slopes are the same everywhere.
func rowsOf(n api.Net, size int) [][]value.Num {
	slopes, _ := points.Slopes(n, make([]value.Span, size))
	constants, _ := points.Residual(n, make([]value.Num, size))
	rows := make([][]value.Num, size)
	for i := range rows {
		for _, s := range slopes[i] {
			rows[i] = append(rows[i], s.Lo)
		}
		rows[i] = append(rows[i], value.Neg(constants[i]))
	}
	return rows
}

// shareOf is the share of a parameter that makes the difference between rows with its factor 0 and with its factor 1.
func shareOf(without, with [][]value.Num) share {
	var s share
	at := 0 // where the row is not 0
	for i, row := range with {
		var rest []value.Num
		for k, x := range row {
			rest = append(rest, value.Sub(x, without[i][k]))
		}
		if first := slices.IndexFunc(rest, isNot0); s.row == nil && first >= 0 {
			s.row, at = rest, first
		}
		var times value.Num
		if s.row != nil {
			times = over(rest[at], s.row[at])
		}
		s.column = append(s.column, times)
	}
	if s.row == nil { // its element has the same node at both ends, or looks at the same node twice
		s.row = make([]value.Num, len(with)+1)
	}
	return s
}

func isNot0(x value.Num) bool {
	return value.Sign(x) != 0
}

// with are the rows for factors of the parameters.
func (q equations) with(factors []value.Num) [][]value.Num {
	var rows [][]value.Num
	for i, row := range q.fixed {
		row = slices.Clone(row)
		for p, s := range q.shares {
			factor := value.Mul(factors[p], s.column[i])
			for k, x := range s.row {
				row[k] = value.Add(row[k], value.Mul(factor, x))
			}
		}
		rows = append(rows, row)
	}
	return rows
}

// product is the sum of the products of numbers.
func product(x, y []value.Num) value.Num {
	var sum value.Num
	for k := range x {
		sum = value.Add(sum, value.Mul(x[k], y[k]))
	}
	return sum
}
