package spread

import (
	"iter"
	"slices"

	"pentode/api"
	"pentode/value"
)

// response is how the value depends on the parameters. By Cramer's rule it is a quotient of two determinants, and none of their products
// has a factor of a parameter twice. So both are sums with a number for each set of parameters, which is multiplied by the factors
// of these; the parameters of a set are the bits of its index.
//
// As soon as these numbers are known a value takes a few products alone: bounds of a yield need many values.
type response struct {
	params        []param
	tops, bottoms []value.Num
}

func (t task) response() response {
	m := matrixOf(t.tableau())
	for range t.size {
		if !m.reduce() {
			zeros := make([]value.Num, 1<<len(t.params))
			return response{t.params, zeros, zeros}
		}
	}
	r := response{params: t.params}
	for pair := range slices.Chunk(m.determinants(len(t.params)+1), 2) {
		r.bottoms, r.tops = append(r.bottoms, pair[0]), append(r.tops, pair[1])
	}
	return r
}

// tableau is rows of integers, from whose determinants the response is made.
//
// First there are the equations, each multiplied by a number above 0, with one more unknown for each parameter: its flow, which is
// the factor times the row of its share. Then there is a pair of rows for each parameter, the last one first: the flow alone, and
// the row, with the other sign. So the equation of a flow is the first row and the factor times the second one, and the determinant is
// likewise a sum of two. Of the last pair the first row gives the determinant of the equations, and the second one that with the
// right side in the column of the unknown Out.
func (t task) tableau() [][]value.Num {
	q, size := t.equations(), t.size+len(t.params)+1
	var rows [][]value.Num
	for i, row := range q.fixed {
		all := slices.Clone(row[:t.size])
		for _, s := range q.shares {
			all = append(all, s.column[i])
		}
		rows = append(rows, whole(append(all, row[t.size])))
	}
	for i, s := range slices.Backward(q.shares) {
		flow, less := make([]value.Num, size), make([]value.Num, size)
		flow[t.size+i] = value.Int(1)
		for k, x := range s.row[:t.size] {
			less[k] = value.Neg(x)
		}
		less[size-1] = value.Neg(s.row[t.size])
		rows = append(rows, flow, less)
	}
	bottom, top := make([]value.Num, size), make([]value.Num, size)
	bottom[size-1], top[t.out] = value.Int(1), value.Int(-1)
	return append(rows, bottom, top)
}

// whole is a multiple of a row, by a number above 0, that has no fractions.
func whole(row []value.Num) []value.Num {
	unit := value.Int(1)
	for _, x := range row {
		unit = value.Mul(unit, denominator(value.Mul(unit, x)))
	}
	var multiple []value.Num
	for _, x := range row {
		multiple = append(multiple, value.Mul(unit, x))
	}
	return multiple
}

// over returns the values at all points of a grid, which has some numbers for each parameter; those of the first parameter change
// first. Where there is no value the bottom is 0.
func (r response) over(axes [][]value.Num) []quotient {
	tops, bottoms := r.tops, r.bottoms
	before := 1
	for i, axis := range axes {
		var factors []quotient
		for _, x := range axis {
			factors = append(factors, r.params[i].factor(x))
		}
		tops, bottoms = replaced(tops, factors, before), replaced(bottoms, factors, before)
		before *= len(axis)
	}
	list := make([]quotient, len(tops))
	for i := range list {
		list[i] = quotient{tops[i], bottoms[i]}
	}
	return list
}

// replaced puts some factors of a parameter in place of its bit in the indices of a list; what was put in place of the bits before
// it takes so many indices. All numbers are multiplied by the bottoms of the factors, so that they stay integers.
func replaced(list []value.Num, factors []quotient, before int) []value.Num {
	var sums []value.Num
	for block := range slices.Chunk(list, 2*before) {
		without, with := block[:before], block[before:]
		for _, f := range factors {
			for i, x := range without {
				sums = append(sums, value.Add(value.Mul(x, f.bottom), value.Mul(with[i], f.top)))
			}
		}
	}
	return sums
}

// vertices yields the numbers of the vertices of a box, and their values, as over does.
func (r response) vertices(box []value.Span) iter.Seq2[int, quotient] {
	return func(yield func(int, quotient) bool) {
		var axes [][]value.Num
		for _, s := range box {
			axes = append(axes, []value.Num{s.Lo, s.Hi})
		}
		for mask, q := range r.over(axes) {
			if !yield(mask, q) {
				return
			}
		}
	}
}

// isRegular reports whether the bottoms at all vertices of a box have the same sign, and none is 0.
func (r response) isRegular(box []value.Span) bool {
	first := 0
	for mask, q := range r.vertices(box) {
		sign := value.Sign(q.bottom)
		if mask == 0 {
			first = sign
		}
		if sign == 0 || sign != first {
			return false
		}
	}
	return true
}

// worst are the worst values over a regular box.
func (r response) worst(box []value.Span) api.SpWorst {
	var least, greatest quotient
	var w api.SpWorst
	for mask, q := range r.vertices(box) {
		if mask == 0 || q.compare(least) < 0 {
			least, w.LoAt = q, mask
		}
		if mask == 0 || q.compare(greatest) > 0 {
			greatest, w.HiAt = q, mask
		}
	}
	w.Lo, w.Hi = value.Text(least.value()), value.Text(greatest.value())
	return w
}

// judge tells whether a regular box is good for a range: all of its values are between those at its vertices.
func (r response) judge(box []value.Span, l limits) verdict {
	var count [3]int // of the vertices below, in and above the range
	for _, q := range r.vertices(box) {
		count[1+l.side(q)]++
	}
	switch 1 << len(box) {
	case count[1]:
		return good
	case count[0], count[2]:
		return bad
	}
	return open
}
