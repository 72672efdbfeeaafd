package symbol

import (
	"math/bits"

	"pentode/value"
)

// solver has the determinants by which linear equations are solved (Cramer's rule), for one or more right sides.
type solver struct {
	size  int
	unit  value.Num // what the determinants are multiplied by
	minor func(columns uint) terms
}

// solver returns that of the equations. Their matrix gets the right sides as more columns, and each row is multiplied by its unit.
func (c circuit) solver(rights ...[]value.Num) solver {
	g := c.matrix()
	rows := g.rows()
	unit := value.Int(1)
	for i := range rows {
		for _, right := range rights {
			s := sum{}
			s.add(term{coef: right[i]})
			rows[i] = append(rows[i], s.terms())
		}
		for k, entry := range rows[i] {
			rows[i][k] = entry.scaled(g.units[i])
		}
		unit = value.Mul(unit, g.units[i])
	}
	return solver{c.size, unit, minors(rows)}
}

// denominator is the determinant of the matrix.
func (s solver) denominator() terms {
	return s.minor(1<<s.size - 1)
}

// numerator is the determinant with a right side in place of the column of an unknown.
func (s solver) numerator(unknown, right int) terms {
	p := s.minor((1<<s.size-1)&^(1<<unknown) | 1<<(s.size+right))
	// The right side stands behind the matrix: on its way to its place it passes the columns behind the unknown.
	if passed := s.size - 1 - unknown; passed%2 == 1 {
		return p.negative()
	}
	return p
}

// minors returns a function that returns determinants of parts of a matrix: of some columns, which are bits of a number and
// at most as many as rows, and of as many rows, the last ones. It remembers what it has found.
func minors(rows [][]terms) func(columns uint) terms {
	known := map[uint]terms{0: {one()}}
	var minor func(columns uint) terms
	minor = func(columns uint) terms {
		if p, ok := known[columns]; ok {
			return p
		}
		s := sum{}
		odd := false
		for k, entry := range rows[len(rows)-bits.OnesCount(columns)] {
			column := uint(1) << k
			if columns&column == 0 {
				continue
			}
			if odd {
				entry = entry.negative()
			}
			odd = !odd
			if len(entry) > 0 {
				s.addProduct(entry, minor(columns&^column))
			}
		}
		known[columns] = s.terms()
		return known[columns]
	}
	return minor
}
