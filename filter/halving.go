package filter

import (
	"slices"

	"pentode/poly"
	"pentode/value"
)

// cell is a part of a span that halving leads to: where it begins, if the span is from 0 to 1; and sheets, the controls in it of those
// polynomials that may be below 0 there.
type cell struct {
	from   value.Num
	sheets [][]value.Num
}

// cellOf is all of a span, for some polynomials.
func cellOf(a value.Span, polynomials ...[]value.Num) cell {
	var c cell
	for _, p := range polynomials {
		c.sheets = append(c.sheets, controls(p, a))
	}
	return c.pruned()
}

// controls are Bernstein's coefficients of p over a span, times a number above 0 that makes them integers: all values there are between
// the least and the greatest of them, and the first one and the last one are those at the ends.
func controls(p []value.Num, a value.Span) []value.Num {
	n := max(poly.Deg(p), 0)
	unit := multiplier(a.Lo, a.Hi)
	ends := []value.Num{value.Mul(a.Lo, unit), value.Mul(a.Hi, unit)}
	c := make([]value.Num, n+1)
	// At a number with the distances x and y from both ends, p is a polynomial in y / x, times a power of x.
	for k, x := range composed(whole(p), n, ends, []value.Num{unit, unit}) {
		c[k] = value.Mul(x, value.Mul(factorial(k), factorial(n-k))) // divided by the choices of k out of n, times the factorial of n
	}
	return c
}

func isBelow0(x value.Num) bool {
	return value.Sign(x) < 0
}

// pruned is the cell without the sheets that are nowhere below 0 in it.
func (c cell) pruned() cell {
	c.sheets = slices.DeleteFunc(c.sheets, func(sheet []value.Num) bool { return !slices.ContainsFunc(sheet, isBelow0) })
	return c
}

// isBelowAtStart reports whether a sheet is below 0 where the cell begins, isBelowAtEnd where it ends.
func (c cell) isBelowAtStart() bool {
	return slices.ContainsFunc(c.sheets, func(sheet []value.Num) bool { return isBelow0(sheet[0]) })
}

func (c cell) isBelowAtEnd() bool {
	return slices.ContainsFunc(c.sheets, func(sheet []value.Num) bool { return isBelow0(sheet[len(sheet)-1]) })
}

// halves cuts a cell of twice the width that is told.
func (c cell) halves(width value.Num) [2]cell {
	lower, upper := cell{from: c.from}, cell{from: value.Add(c.from, width)}
	for _, sheet := range c.sheets {
		before, behind := halved(sheet)
		lower.sheets, upper.sheets = append(lower.sheets, before), append(upper.sheets, behind)
	}
	return [2]cell{lower.pruned(), upper.pruned()}
}

// halved are the controls of both halves, found by the sums of neighbours, the sums of these, and so on (de Casteljau). All are
// multiplied by the same power of two, so that integers stay integers.
func halved(controls []value.Num) (before, behind []value.Num) {
	n := len(controls) - 1
	before, behind = make([]value.Num, n+1), make([]value.Num, n+1)
	sums := slices.Clone(controls)
	for i := range before {
		unit := twoTo(n - i)
		before[i], behind[n-i] = value.Mul(sums[0], unit), value.Mul(sums[n-i], unit)
		for k := range sums[:n-i] {
			sums[k] = value.Add(sums[k], sums[k+1])
		}
	}
	return before, behind
}

// outcome is what a search tells.
type outcome int

const (
	unsure outcome = iota
	found
	nowhere
)

// firstBelow goes through the ends of a cell from 0 to 1, its middle, the middles of its halves, and so on, and tells the first
// one at which a sheet is below 0. It halves at most so many times.
func (c cell) firstBelow(patience int) (at value.Num, o outcome) {
	switch {
	case c.isBelowAtStart():
		return value.Int(0), found
	case c.isBelowAtEnd():
		return value.Int(1), found
	}
	cells, width := []cell{c}, value.Int(1)
	for range patience {
		var next []cell
		width = over(width, value.Int(2))
		for _, c := range cells {
			for _, half := range c.halves(width) {
				switch {
				case half.isBelowAtStart():
					return half.from, found
				case len(half.sheets) > 0:
					next = append(next, half)
				}
			}
		}
		if len(next) == 0 {
			return value.Num{}, nowhere
		}
		cells = next
	}
	return value.Num{}, unsure
}
