package probe_test

import (
	"math/big"
	"math/bits"
	"slices"

	"pentode/api"
	"pentode/value"
)

// This file has the chapter's definitions written again, with the library's fractions.

// frac is the fraction of a text, which has to be valid.
func frac(v api.Val) *big.Rat {
	x, ok := new(big.Rat).SetString(string(v))
	if !ok {
		panic("no number: " + string(v))
	}
	return x
}

func fracOf(x value.Num) *big.Rat { return frac(value.Text(x)) }

func textOf(x *big.Rat) api.Val { return api.Val(x.RatString()) }

func plus(x, y *big.Rat) *big.Rat  { return new(big.Rat).Add(x, y) }
func minus(x, y *big.Rat) *big.Rat { return new(big.Rat).Sub(x, y) }
func times(x, y *big.Rat) *big.Rat { return new(big.Rat).Mul(x, y) }
func over(x, y *big.Rat) *big.Rat  { return new(big.Rat).Quo(x, y) }
func neg(x *big.Rat) *big.Rat      { return new(big.Rat).Neg(x) }
func whole(n int) *big.Rat         { return big.NewRat(int64(n), 1) }

// pair is the ends of a range.
type pair struct{ lo, hi *big.Rat }

func pairOf(r api.Range) pair { return pair{frac(r.Lo), frac(r.Hi)} }

func (p pair) has(x *big.Rat) bool { return p.lo.Cmp(x) <= 0 && x.Cmp(p.hi) <= 0 }
func (p pair) meets(q pair) bool   { return p.lo.Cmp(q.hi) <= 0 && q.lo.Cmp(p.hi) <= 0 }
func (p pair) mid() *big.Rat       { return over(plus(p.lo, p.hi), whole(2)) }
func (p pair) text() api.Range     { return api.Range{Lo: textOf(p.lo), Hi: textOf(p.hi)} }

// away is how far readings for a value may be from it.
func away(m api.PbMeter, x *big.Rat) *big.Rat {
	fixed := plus(frac(m.Abs), over(frac(m.Step), whole(2)))
	return plus(fixed, times(frac(m.Rel), new(big.Rat).Abs(x)))
}

// isPossible is whether a reading is possible for a value.
func isPossible(m api.PbMeter, r, x *big.Rat) bool {
	return new(big.Rat).Abs(minus(r, x)).Cmp(away(m, x)) <= 0
}

// spanOf is the span of a reading, as the chapter tells it in parentheses.
func spanOf(m api.PbMeter, r *big.Rat) pair {
	fixed := away(m, new(big.Rat))
	more, less := plus(whole(1), frac(m.Rel)), minus(whole(1), frac(m.Rel))
	lo, hi := minus(r, fixed), plus(r, fixed)
	s := pair{over(lo, more), over(hi, less)}
	if lo.Sign() < 0 {
		s.lo = over(lo, less)
	}
	if hi.Sign() < 0 {
		s.hi = over(hi, more)
	}
	return s
}

// readingsOf are the readings of a range.
func readingsOf(m api.PbMeter, p pair) pair {
	return pair{minus(p.lo, away(m, p.lo)), plus(p.hi, away(m, p.hi))}
}

// equations are those of a net with other Vals, each with its right side behind its slopes.
func equations(n api.Net, vals map[int]*big.Rat) [][]*big.Rat {
	count := size(n)
	rows := make([][]*big.Rat, count)
	for i := range rows {
		for range count + 1 {
			rows[i] = append(rows[i], new(big.Rat))
		}
	}
	add := func(row, column int, x *big.Rat) { // what is below 0 is the ground
		if row >= 0 && column >= 0 {
			rows[row][column] = plus(rows[row][column], x)
		}
	}
	own := carriers(n)
	flow := func(elem int) int { return n.Nodes + slices.Index(own, elem) }
	for i, e := range n.Elems {
		v := frac(e.Val)
		if other := vals[i]; other != nil {
			v = other
		}
		a, b, c, d := e.A-1, e.B-1, e.C-1, e.D-1
		through := func(column int, x *big.Rat) {
			add(a, column, x)
			add(b, column, neg(x))
		}
		switch e.Kind {
		case api.ElR, api.ElS:
			if e.Kind == api.ElR || e.Ref == 1 {
				through(a, over(whole(1), v))
				through(b, over(whole(-1), v))
			}
		case api.ElI:
			through(count, neg(v))
		case api.ElG:
			through(c, v)
			through(d, neg(v))
		case api.ElF:
			through(flow(e.Ref), v)
		case api.ElL, api.ElV, api.ElE, api.ElH:
			row := flow(i)
			through(row, whole(1))
			add(row, a, whole(1))
			add(row, b, whole(-1))
			switch e.Kind {
			case api.ElV:
				add(row, count, v)
			case api.ElE:
				add(row, c, neg(v))
				add(row, d, v)
			case api.ElH:
				add(row, flow(e.Ref), neg(v))
			}
		}
	}
	return rows
}

// solved is the sign of the determinant of equations, and their solution if it is not 0.
func solved(rows [][]*big.Rat) (int, []*big.Rat) {
	sign := 1
	for k := range rows {
		found := slices.IndexFunc(rows[k:], func(row []*big.Rat) bool { return row[k].Sign() != 0 })
		if found < 0 {
			return 0, nil
		}
		if found > 0 {
			sign = -sign
		}
		rows[k], rows[k+found] = rows[k+found], rows[k]
		sign *= rows[k][k].Sign()
		for i := range rows {
			part := over(rows[i][k], rows[k][k])
			for j := k; i != k && j < len(rows[i]); j++ {
				rows[i][j] = minus(rows[i][j], times(part, rows[k][j]))
			}
		}
	}
	var x []*big.Rat
	for k, row := range rows {
		x = append(x, over(row[len(rows)], row[k]))
	}
	return sign, x
}

// varied are the ranges of all elements that have one, with a fault or without.
func varied(k api.PbTask, fault int) map[int]pair {
	spans := map[int]pair{}
	for i, elem := range k.Elems {
		spans[elem] = pairOf(k.Ranges[i])
	}
	if fault > 0 {
		spans[k.Faults[fault-1].Elem] = pairOf(k.Faults[fault-1].Range)
	}
	return spans
}

// predicted is what Predict has to return, and whether the task is regular.
func predicted(k api.PbTask, fault int) ([]pair, bool) {
	boxes := []map[int]*big.Rat{{}}
	for elem, p := range varied(k, fault) {
		var more []map[int]*big.Rat
		for _, vals := range boxes {
			for _, end := range []*big.Rat{p.lo, p.hi} {
				next := map[int]*big.Rat{elem: end}
				for other, v := range vals {
					next[other] = v
				}
				more = append(more, next)
			}
		}
		boxes = more
	}
	var list []pair
	first := 0
	for i, vals := range boxes {
		sign, y := solved(equations(k.Net, vals))
		if i == 0 {
			first = sign
		}
		if sign == 0 || sign != first {
			return nil, false
		}
		for at, out := range k.Outs {
			if i == 0 {
				list = append(list, pair{y[out], y[out]})
			}
			if y[out].Cmp(list[at].lo) < 0 {
				list[at].lo = y[out]
			}
			if y[out].Cmp(list[at].hi) > 0 {
				list[at].hi = y[out]
			}
		}
	}
	return list, true
}

// dictionary is what Dictionary has to return, and whether all tasks are regular.
func dictionary(k api.PbTask) ([][]pair, bool) {
	var list [][]pair
	for fault := range 1 + len(k.Faults) {
		p, ok := predicted(k, fault)
		if !ok {
			return nil, false
		}
		list = append(list, p)
	}
	return list, true
}

func textsOf(list []pair) []api.Range {
	var texts []api.Range
	for _, p := range list {
		texts = append(texts, p.text())
	}
	return texts
}

// candidates is what Candidates has to return, for a dictionary.
func candidates(k api.PbTask, d [][]pair, readings []api.Val) []int {
	var list []int
	for fault, p := range d {
		fits := true
		for i, m := range k.Meters {
			fits = fits && spanOf(m, frac(readings[i])).meets(p[i])
		}
		if fits {
			list = append(list, fault)
		}
	}
	return list
}

// told is what Pairs has to return, for a dictionary.
func told(k api.PbTask, d [][]pair, mask int) (count, all int) {
	for one := range d {
		for other := one + 1; other < len(d); other++ {
			apart := false
			for i, m := range k.Meters {
				meets := readingsOf(m, d[one][i]).meets(readingsOf(m, d[other][i]))
				apart = apart || mask>>i&1 == 1 && !meets
			}
			all++
			if apart {
				count++
			}
		}
	}
	return count, all
}

// chosen is what Choose has to return, for a dictionary.
func chosen(k api.PbTask, d [][]pair, most int) (mask, count int) {
	for set := range 1 << len(k.Outs) {
		outs := bits.OnesCount(uint(set))
		if outs > most {
			continue
		}
		n, _ := told(k, d, set)
		if n > count || n == count && outs < bits.OnesCount(uint(mask)) {
			mask, count = set, n
		}
	}
	return mask, count
}

// fits is whether all of Outs have values in the spans of the readings, if an element has the number x.
func fits(k api.PbTask, elem int, readings []api.Val, x *big.Rat) bool {
	_, y := solved(equations(k.Net, map[int]*big.Rat{elem: x}))
	for i, out := range k.Outs {
		if !spanOf(k.Meters[i], frac(readings[i])).has(y[out]) {
			return false
		}
	}
	return true
}
