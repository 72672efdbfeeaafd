package points

import (
	"iter"
	"slices"

	"pentode/api"
	"pentode/value"
)

// linearPowers is how many coefficients the pieces of a piecewise linear curve have at most.
const linearPowers = 2

// Exact returns all operating points of a piecewise linear net.
func Exact(n api.Net) ([][]value.Num, api.Errno) {
	c, e := circuitOf(n)
	if e != api.OK {
		return nil, e
	}
	var counts []int
	for _, p := range c.parts {
		if !p.isLinear() {
			return nil, api.ErrForm
		}
		if p.kind == api.ElD {
			counts = append(counts, len(p.curve.pieces))
		}
	}
	if isMore(counts, api.MaxChoices) {
		return nil, api.ErrLong
	}
	var found [][]value.Num
	for choice := range choices(counts) {
		x, ok := c.chosen(choice).solution()
		if !ok {
			return nil, api.ErrSingular
		}
		isSame := func(y []value.Num) bool { return sameNumbers(x, y) }
		if c.holds(choice, x) && !slices.ContainsFunc(found, isSame) {
			found = append(found, x)
		}
	}
	return found, api.OK
}

// isLinear returns whether the current of an element is piecewise linear.
func (p part) isLinear() bool {
	isCurved := func(piece []value.Num) bool { return len(piece) > linearPowers }
	return p.kind != api.ElM && (p.kind != api.ElD || !slices.ContainsFunc(p.curve.pieces, isCurved))
}

// isMore returns whether the product of some numbers, all at least 1, is above a limit.
func isMore(counts []int, limit int) bool {
	product := 1
	for _, count := range counts {
		product *= count
		if product > limit {
			return true
		}
	}
	return false
}

// choices yields all lists of numbers from 0 on that are below the counts, the last number changing first. A list holds until
// the next one is yielded.
func choices(counts []int) iter.Seq[[]int] {
	return func(yield func([]int) bool) {
		choice := make([]int, len(counts))
		for yield(choice) {
			k := len(choice) - 1
			for k >= 0 && choice[k] == counts[k]-1 {
				choice[k] = 0
				k--
			}
			if k < 0 {
				return
			}
			choice[k]++
		}
	}
}

// chosen is the circuit with the chosen pieces in place of the curves.
func (c circuit) chosen(choice []int) circuit {
	c.parts = slices.Clone(c.parts)
	for i, p := range c.parts {
		if p.kind == api.ElD {
			c.parts[i].curve = p.curve.only(choice[0])
			choice = choice[1:]
		}
	}
	return c
}

// solution returns that of linear equations, if there is exactly one.
func (c circuit) solution() ([]value.Num, bool) {
	constants := equations(c, numbers{}, make([]value.Num, c.size))
	right := make([]value.Num, c.size)
	for i, x := range constants {
		right[i] = value.Neg(x)
	}
	x, e := Solve(c.linear(), right)
	return x, e == api.OK
}

// linear are the slopes of linear equations, which are the same everywhere.
func (c circuit) linear() [][]value.Num {
	m := matrix[value.Num](c.size, c.size)
	for i, row := range c.slopes(make([]value.Span, c.size)) {
		for k, s := range row {
			m[i][k] = s.Lo
		}
	}
	return m
}

// holds returns whether the voltages of all devices are within the chosen pieces.
func (c circuit) holds(choice []int, x []value.Num) bool {
	at := append(make([]value.Num, 1, c.size+1), x...)
	for _, p := range c.parts {
		if p.kind != api.ElD {
			continue
		}
		volts := value.Point(value.Sub(at[p.a], at[p.b]))
		if _, ok := p.curve.part(choice[0], volts); !ok {
			return false
		}
		choice = choice[1:]
	}
	return true
}

func sameNumbers(x, y []value.Num) bool {
	return slices.EqualFunc(x, y, func(a, b value.Num) bool { return value.Cmp(a, b) == 0 })
}
