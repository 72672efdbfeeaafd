package spread

import (
	"pentode/api"
	"pentode/points"
	"pentode/value"
)

// point is the net of a task for numbers of its parameters.
type point struct {
	task   task
	shares []share
	x      []value.Num
	matrix [][]value.Num
	right  []value.Num
}

// pointFor reads a task, and takes numbers for its parameters, or returns the first error.
func pointFor(from api.SpTask, x []value.Num) (point, api.Errno) {
	t, e := taskOf(from)
	switch {
	case e != api.OK:
		return point{}, e
	case len(x) != len(t.params):
		return point{}, api.ErrArg
	}
	for i, p := range t.params {
		switch {
		case value.Digits(x[i]) > api.MaxDigits:
			return point{}, api.ErrLong
		case !p.accepts(x[i]):
			return point{}, api.ErrRange
		}
	}
	return t.at(x), api.OK
}

// at takes numbers for the parameters that these accept.
func (t task) at(x []value.Num) point {
	q := t.equations()
	p := point{task: t, shares: q.shares, x: x}
	var factors []value.Num
	for i, param := range t.params {
		factors = append(factors, param.factor(x[i]).value())
	}
	for _, row := range q.with(factors) {
		p.matrix = append(p.matrix, row[:t.size:t.size])
		p.right = append(p.right, row[t.size])
	}
	return p
}

// solution is that of the equations, if there is exactly one.
func (p point) solution() ([]value.Num, api.Errno) {
	return points.Solve(p.matrix, p.right)
}

// value is the value of the task, if there is one.
func (p point) value() (value.Num, api.Errno) {
	y, e := p.solution()
	if e != api.OK {
		return value.Num{}, e
	}
	return y[p.task.out], api.OK
}

// adjoint is the solution of the adjoint equations, of which there is one exactly if there is a value.
func (p point) adjoint() ([]value.Num, api.Errno) {
	exchanged := make([][]value.Num, p.task.size)
	for _, row := range p.matrix {
		for k, x := range row {
			exchanged[k] = append(exchanged[k], x)
		}
	}
	right := make([]value.Num, p.task.size)
	right[p.task.out] = value.Int(1)
	return points.Solve(exchanged, right)
}

// slopes are the derivatives of the value by the numbers of the parameters, for the solution y of the equations. When a factor changes,
// the equations lack something, and the adjoint solution tells how much the value gets of this.
func (p point) slopes(y []value.Num) []value.Num {
	weights, _ := p.adjoint()
	slopes := make([]value.Num, len(p.x))
	for i, s := range p.shares {
		lack := value.Sub(s.row[len(y)], product(s.row[:len(y)], y))
		byFactor := value.Mul(product(weights, s.column), lack)
		slopes[i] = value.Mul(byFactor, p.task.params[i].factorSlope(p.x[i]))
	}
	return slopes
}
