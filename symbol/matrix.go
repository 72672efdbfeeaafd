package symbol

import (
	"strings"

	"pentode/api"
	"pentode/value"
)

// ground is in place of the number of the equation, and of the unknown, that the ground does not have.
const ground = -1

// grid is a matrix in the making: a row for each equation, a column for each unknown.
type grid struct {
	cells [][]sum
	// The units of rows are multiples of the denominators of all that was added to them: with these the numbers of a row
	// become integers, whose sums and products need no common divisors.
	units []value.Num
}

func newGrid(size int) grid {
	g := grid{cells: make([][]sum, size), units: make([]value.Num, size)}
	for i := range size {
		g.units[i] = value.Int(1)
		for range size {
			g.cells[i] = append(g.cells[i], sum{})
		}
	}
	return g
}

func (g grid) add(row, column int, t term) {
	if row == ground || column == ground {
		return
	}
	g.cells[row][column].add(t)
	g.units[row] = value.Mul(g.units[row], denominator(value.Mul(g.units[row], t.coef)))
}

// addBetween adds to an equation a multiple of the difference of two unknowns.
func (g grid) addBetween(row, from, to int, t term) {
	g.add(row, from, t)
	g.add(row, to, t.negative())
}

// addFlow adds a current from a to b that is a multiple of an unknown.
func (g grid) addFlow(a, b, by int, t term) {
	g.add(a, by, t)
	g.add(b, by, t.negative())
}

// rows are those of the matrix.
func (g grid) rows() [][]terms {
	rows := make([][]terms, len(g.cells))
	for i, row := range g.cells {
		for _, s := range row {
			rows[i] = append(rows[i], s.terms())
		}
	}
	return rows
}

// matrix is that of the equations.
func (c circuit) matrix() grid {
	g := newGrid(c.size)
	for i, e := range c.elems {
		if !isOpen(e) {
			c.write(g, i)
		}
	}
	return g
}

// write adds to a matrix what an element gives.
func (c circuit) write(g grid, elem int) {
	e, own, factor := c.elems[elem], c.own[elem], c.factor(elem)
	from, to, byFrom, byTo, by := e.A-1, e.B-1, e.C-1, e.D-1, own
	switch e.Kind {
	case api.ElR, api.ElS, api.ElC:
		byFrom, byTo = from, to
		fallthrough
	case api.ElG:
		g.addFlow(from, to, byFrom, factor)
		g.addFlow(from, to, byTo, factor.negative())
	case api.ElF:
		g.addFlow(from, to, c.own[e.Ref], factor)
	case api.ElH:
		by = c.own[e.Ref]
		fallthrough
	case api.ElL: // its own current gives its voltage, as another one gives that of ElH
		g.add(own, by, factor.negative())
		fallthrough
	case api.ElE: // C and D of the kinds above are the ground
		g.addBetween(own, byFrom, byTo, factor.negative())
		fallthrough
	case api.ElV:
		g.addBetween(own, from, to, one())
		g.addFlow(from, to, own, one())
	}
}

// denominator returns that of x, which package value tells in its text alone. It has at most as many digits as that of a Val.
func denominator(x value.Num) value.Num {
	if value.Cmp(x, value.Floor(x)) == 0 {
		return value.Int(1)
	}
	_, digits, _ := strings.Cut(string(value.Text(x)), "/")
	d, _ := value.Parse(api.Val(digits))
	return d
}

func one() term {
	return term{coef: value.Int(1)}
}
