package spread

import (
	"slices"

	"pentode/value"
)

// matrix is what is left of rows of integers on the way to their determinants, from which some rows and columns have been taken off.
//
// All its numbers are determinants of parts of the rows that there were (Bareiss): so they stay integers, for which no common divisors
// have to be found, and stay short.
type matrix struct {
	rows    [][]value.Num
	pivot   value.Num // the determinant of what was taken off
	flipped bool      // whether it has the other sign
}

func matrixOf(rows [][]value.Num) matrix {
	return matrix{rows: rows, pivot: value.Int(1)}
}

// reduce takes off the first row and a column in which it is not 0. It returns whether there is one: if not, the determinant is 0.
func (m *matrix) reduce() bool {
	by, before := m.rows[0], m.pivot
	column := slices.IndexFunc(by, isNot0)
	if column < 0 {
		return false
	}
	exchange := func(row []value.Num) {
		row[0], row[column] = row[column], row[0]
	}
	clearFirst := func(row []value.Num) {
		first := row[0]
		if !isNot0(first) && value.Cmp(m.pivot, before) == 0 {
			return
		}
		for k, x := range row {
			x = value.Sub(value.Mul(m.pivot, x), value.Mul(first, by[k]))
			row[k] = over(x, before)
		}
	}
	exchange(by)
	m.rows, m.pivot = m.rows[1:], by[0]
	m.flipped = m.flipped != (column != 0)
	for i, row := range m.rows {
		exchange(row)
		clearFirst(row)
		m.rows[i] = row[1:]
	}
	return true
}

// determinants are those of all matrices that have one row of each pair, if the rows are so many pairs. Those with the first rows of
// pairs come first, and the last pair changes first.
func (m matrix) determinants(pairs int) []value.Num {
	if pairs == 0 {
		if m.flipped {
			return []value.Num{value.Neg(m.pivot)}
		}
		return []value.Num{m.pivot}
	}
	var list []value.Num
	for which := range 2 {
		if one := m.choose(which); one.reduce() {
			list = append(list, one.determinants(pairs-1)...)
		} else {
			list = append(list, make([]value.Num, 1<<(pairs-1))...)
		}
	}
	return list
}

// choose is a matrix, in memory of its own, without one row of the first pair.
func (m matrix) choose(which int) matrix {
	var rows [][]value.Num
	for i, row := range m.rows {
		if i > 1 || i == which {
			rows = append(rows, slices.Clone(row))
		}
	}
	m.rows = rows
	return m
}
