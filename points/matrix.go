package points

import (
	"slices"
	"strings"

	"pentode/api"
	"pentode/value"
)

// matrix returns rows of zero values, which are cut from one block so that none can grow into the next one.
func matrix[T any](rows, columns int) [][]T {
	block := make([]T, rows*columns)
	m := make([][]T, rows)
	for i := range m {
		m[i] = block[i*columns : (i+1)*columns : (i+1)*columns]
	}
	return m
}

// isSquare returns whether there are so many rows, each with as many parts.
func isSquare[T any](rows [][]T, size int) bool {
	return len(rows) == size && !slices.ContainsFunc(rows, func(row []T) bool { return len(row) != size })
}

// Solve solves linear equations.
func Solve(m [][]value.Num, b []value.Num) ([]value.Num, api.Errno) {
	switch {
	case len(m) > api.MaxUnknowns:
		return nil, api.ErrLong
	case !isSquare(m, len(m)) || len(b) != len(m):
		return nil, api.ErrArg
	}
	right := matrix[value.Num](len(b), 1)
	for i, x := range b {
		right[i][0] = x
	}
	columns, ok := solved(m, right)
	if !ok {
		return nil, api.ErrSingular
	}
	x := make([]value.Num, len(b))
	for i, row := range columns {
		x[i] = row[0]
	}
	return x, api.OK
}

// Inverse returns the inverse of a matrix.
func Inverse(m [][]value.Num) ([][]value.Num, api.Errno) {
	switch {
	case len(m) > api.MaxUnknowns:
		return nil, api.ErrLong
	case !isSquare(m, len(m)):
		return nil, api.ErrArg
	}
	inverse, ok := inverted(m)
	if !ok {
		return nil, api.ErrSingular
	}
	return inverse, api.OK
}

// inverted is the inverse of a square matrix, if it has one.
func inverted(m [][]value.Num) ([][]value.Num, bool) {
	unit := matrix[value.Num](len(m), len(m))
	for i := range unit {
		unit[i][i] = value.Int(1)
	}
	return solved(m, unit)
}

// solved returns the matrix whose product with the square matrix m is right, if there is exactly one.
func solved(m, right [][]value.Num) ([][]value.Num, bool) {
	n := len(m)
	var rows [][]value.Num
	for i := range m {
		row, _ := whole(slices.Concat(m[i], right[i]))
		rows = append(rows, row)
	}
	pivot, _ := reduce(rows)
	if value.Sign(pivot) == 0 {
		return nil, false
	}
	for i, row := range rows {
		rows[i] = row[n:len(row):len(row)]
		for j, x := range rows[i] {
			rows[i][j] = over(x, pivot)
		}
	}
	return rows, true
}

// determinant is that of a square matrix.
func determinant(m [][]value.Num) value.Num {
	var rows [][]value.Num
	units := value.Int(1)
	for i := range m {
		row, unit := whole(m[i])
		rows = append(rows, row)
		units = value.Mul(units, unit)
	}
	pivot, flipped := reduce(rows)
	if flipped {
		pivot = value.Neg(pivot)
	}
	return over(pivot, units)
}

// reduce changes rows, which begin with a square matrix, so that they stand for the same equations, with the pivot times
// the unit matrix at their beginning (which it does not write, as nobody reads it). The pivot is the determinant of
// the matrix, or, if flipped, the negative of it. If it is 0, the rows are of no use.
//
// All numbers on the way are determinants of parts of the rows (Bareiss, Jordan): so integers stay integers, for which no common
// divisors have to be found, and stay short.
func reduce(rows [][]value.Num) (pivot value.Num, flipped bool) {
	pivot = value.Int(1)
	for k := range rows {
		found := k
		for found < len(rows) && value.Sign(rows[found][k]) == 0 {
			found++
		}
		if found == len(rows) {
			return value.Int(0), false
		}
		if found != k {
			rows[k], rows[found] = rows[found], rows[k]
			flipped = !flipped
		}
		last := pivot
		pivot = rows[k][k]
		for i, row := range rows {
			if i != k {
				combine(row[k:], rows[k][k:], pivot, last)
			}
		}
	}
	return pivot, flipped
}

// combine makes the row, from its second number on, the pivot times it, less its first number times that of the pivot,
// divided by the pivot before it.
func combine(row, by []value.Num, pivot, last value.Num) {
	first := row[0]
	none := value.Sign(first) == 0
	if none && value.Cmp(pivot, last) == 0 {
		return
	}
	undivided := value.Cmp(last, value.Int(1)) == 0
	for j := 1; j < len(row); j++ {
		x := value.Mul(pivot, row[j])
		if !none {
			x = value.Sub(x, value.Mul(first, by[j]))
		}
		if !undivided {
			x = over(x, last)
		}
		row[j] = x
	}
}

// whole returns a multiple of a row whose numbers are integers, and what the row is multiplied by.
func whole(row []value.Num) ([]value.Num, value.Num) {
	unit := value.Int(1)
	for _, x := range row {
		unit = value.Mul(unit, denominator(value.Mul(unit, x)))
	}
	multiple := make([]value.Num, len(row))
	for i, x := range row {
		multiple[i] = value.Mul(unit, x)
	}
	return multiple, unit
}

// denominator returns that of x, which package value tells in its text alone.
func denominator(x value.Num) value.Num {
	if value.Cmp(x, value.Floor(x)) == 0 {
		return value.Int(1)
	}
	_, digits, _ := strings.Cut(string(value.Text(x)), "/")
	return integer(digits)
}

// integer returns the number with these digits, of which there may be more than a Val has: so they are read in rows.
func integer(digits string) value.Num {
	const row = api.MaxRead - 1
	unit, _ := value.Read("1" + strings.Repeat("0", row))
	var sum value.Num
	for digits != "" {
		next := (len(digits)-1)%row + 1
		part, _ := value.Read(digits[:next])
		sum = value.Add(value.Mul(sum, unit), part)
		digits = digits[next:]
	}
	return sum
}
