package spread_test

import (
	"math/big"
	"slices"

	"pentode/api"
	"pentode/value"
)

// This file has the chapter's definitions written again, element by element, with the library's fractions.

// frac is the fraction of a text, which has to be valid.
func frac(v api.Val) *big.Rat {
	x, ok := new(big.Rat).SetString(string(v))
	if !ok {
		panic("no number: " + string(v))
	}
	return x
}

func fracs(list []value.Num) []*big.Rat {
	var fs []*big.Rat
	for _, x := range list {
		fs = append(fs, frac(value.Text(x)))
	}
	return fs
}

func textOf(x *big.Rat) api.Val { return api.Val(x.RatString()) }

func plus(x, y *big.Rat) *big.Rat  { return new(big.Rat).Add(x, y) }
func minus(x, y *big.Rat) *big.Rat { return new(big.Rat).Sub(x, y) }
func times(x, y *big.Rat) *big.Rat { return new(big.Rat).Mul(x, y) }
func over(x, y *big.Rat) *big.Rat  { return new(big.Rat).Quo(x, y) }
func whole(n int) *big.Rat         { return big.NewRat(int64(n), 1) }

// system is linear equations.
type system struct {
	m [][]*big.Rat
	b []*big.Rat
}

func systemOf(size int) system {
	var s system
	for range size {
		s.m = append(s.m, make([]*big.Rat, size))
		s.b = append(s.b, new(big.Rat))
	}
	for _, row := range s.m {
		for k := range row {
			row[k] = new(big.Rat)
		}
	}
	return s
}

// add adds to a slope; what is below 0 is the ground.
func (s system) add(row, column int, x *big.Rat) {
	if row >= 0 && column >= 0 {
		s.m[row][column] = plus(s.m[row][column], x)
	}
}

// push adds a constant to an equation, which makes its right side less.
func (s system) push(row int, x *big.Rat) {
	if row >= 0 {
		s.b[row] = minus(s.b[row], x)
	}
}

// equations are those of the net of a task for numbers of its parameters.
func equations(k api.SpTask, x []*big.Rat) system {
	s := systemOf(size(k.Net))
	own := carriers(k.Net)
	flow := func(elem int) int { return k.Net.Nodes + slices.Index(own, elem) }
	for i, e := range k.Net.Elems {
		v := frac(e.Val)
		if at := slices.Index(k.Elems, i); at >= 0 {
			v = x[at]
		}
		a, b, c, d := e.A-1, e.B-1, e.C-1, e.D-1
		less := new(big.Rat).Neg(v)
		both := func(by int, x *big.Rat) {
			s.add(a, by, x)
			s.add(b, by, new(big.Rat).Neg(x))
		}
		switch e.Kind {
		case api.ElR, api.ElS:
			if e.Kind == api.ElR || e.Ref == 1 {
				both(a, over(whole(1), v))
				both(b, over(whole(-1), v))
			}
		case api.ElI:
			s.push(a, v)
			s.push(b, less)
		case api.ElG:
			both(c, v)
			both(d, less)
		case api.ElF:
			both(flow(e.Ref), v)
		case api.ElL, api.ElV, api.ElE, api.ElH:
			row := flow(i)
			both(row, whole(1))
			s.add(row, a, whole(1))
			s.add(row, b, whole(-1))
			switch e.Kind {
			case api.ElV:
				s.push(row, less)
			case api.ElE:
				s.add(row, c, less)
				s.add(row, d, v)
			case api.ElH:
				s.add(row, flow(e.Ref), less)
			}
		}
	}
	return s
}

// exchanged are the adjoint equations for an unknown.
func (s system) exchanged(out int) system {
	a := systemOf(len(s.b))
	for i, row := range s.m {
		for k, x := range row {
			a.m[k][i] = x
		}
	}
	a.b[out] = whole(1)
	return a
}

// solved is the determinant of the equations, and their solution if it is not 0.
func (s system) solved() (*big.Rat, []*big.Rat) {
	det := whole(1)
	var rows [][]*big.Rat
	for i, row := range s.m {
		rows = append(rows, append(slices.Clone(row), s.b[i]))
	}
	for k := range rows {
		found := slices.IndexFunc(rows[k:], func(row []*big.Rat) bool { return row[k].Sign() != 0 })
		if found < 0 {
			return new(big.Rat), nil
		}
		if found > 0 {
			det.Neg(det)
		}
		rows[k], rows[k+found] = rows[k+found], rows[k]
		det = times(det, rows[k][k])
		for i := range rows {
			part := over(rows[i][k], rows[k][k])
			for j := k; i != k && j < len(rows[i]); j++ {
				rows[i][j] = minus(rows[i][j], times(part, rows[k][j]))
			}
		}
	}
	var x []*big.Rat
	for k, row := range rows {
		x = append(x, over(row[len(rows)], row[k]))
	}
	return det, x
}

// at is the value for numbers, or nil.
func at(k api.SpTask, x []*big.Rat) *big.Rat {
	_, y := equations(k, x).solved()
	if y == nil {
		return nil
	}
	return y[k.Out]
}

// pair is the ends of a range.
type pair struct{ lo, hi *big.Rat }

func pairOf(r api.Range) pair { return pair{frac(r.Lo), frac(r.Hi)} }

func (p pair) width() *big.Rat          { return minus(p.hi, p.lo) }
func (p pair) mid() *big.Rat            { return over(plus(p.lo, p.hi), whole(2)) }
func (p pair) has(x *big.Rat) bool      { return p.lo.Cmp(x) <= 0 && x.Cmp(p.hi) <= 0 }
func (p pair) part(r *big.Rat) *big.Rat { return plus(p.lo, times(r, p.width())) }

func boxOf(k api.SpTask) []pair {
	var box []pair
	for _, r := range k.Ranges {
		box = append(box, pairOf(r))
	}
	return box
}

// corner is a vertex of a box.
func corner(box []pair, mask int) []*big.Rat {
	var x []*big.Rat
	for _, p := range box {
		if mask%2 == 1 {
			x = append(x, p.hi)
		} else {
			x = append(x, p.lo)
		}
		mask /= 2
	}
	return x
}

// corners are the values at all vertices of a box, and whether it is regular.
func corners(k api.SpTask, box []pair) ([]*big.Rat, bool) {
	var values []*big.Rat
	above, below, all := 0, 0, 1<<len(box)
	for mask := range all {
		det, y := equations(k, corner(box, mask)).solved()
		switch det.Sign() {
		case 1:
			above++
		case -1:
			below++
		default:
			values = append(values, nil)
			continue
		}
		values = append(values, y[k.Out])
	}
	return values, above == all || below == all
}

// worst is what Worst has to return for a box.
func worst(k api.SpTask, box []pair) (api.SpWorst, pair, bool) {
	values, ok := corners(k, box)
	if !ok {
		return api.SpWorst{}, pair{}, false
	}
	ends := pair{slices.MinFunc(values, (*big.Rat).Cmp), slices.MaxFunc(values, (*big.Rat).Cmp)}
	is := func(x *big.Rat) func(*big.Rat) bool { return func(y *big.Rat) bool { return x.Cmp(y) == 0 } }
	return api.SpWorst{
		Lo: textOf(ends.lo), Hi: textOf(ends.hi),
		LoAt: slices.IndexFunc(values, is(ends.lo)), HiAt: slices.IndexFunc(values, is(ends.hi)),
	}, ends, true
}

// slope is the derivative of the value by a parameter. The value is a quotient of linear functions of the number or of its
// reciprocal, so two differences tell it: 2 / slope = h / (f(x + h) - f(x)) + h / (f(x) - f(x - h)).
func slope(k api.SpTask, x []*big.Rat, param int) *big.Rat {
	value := func(h *big.Rat) *big.Rat {
		y := slices.Clone(x)
		y[param] = plus(x[param], h)
		return at(k, y)
	}
	for n := 3; ; n++ {
		h := over(whole(1), whole(n*n*n*n))
		middle, up, down := value(new(big.Rat)), value(h), value(new(big.Rat).Neg(h))
		if up == nil || down == nil {
			continue
		}
		rise, before := minus(up, middle), minus(middle, down)
		if rise.Sign() == 0 || before.Sign() == 0 {
			return new(big.Rat)
		}
		return over(whole(2), plus(over(h, rise), over(h, before)))
	}
}

// judged is whether a box is good, or bad.
func judged(k api.SpTask, box []pair, spec pair) (good, bad bool) {
	_, ends, ok := worst(k, box)
	if !ok {
		panic("the box is not regular")
	}
	return spec.has(ends.lo) && spec.has(ends.hi), ends.hi.Cmp(spec.lo) < 0 || ends.lo.Cmp(spec.hi) > 0
}

// volume is that of a box within the box of a task.
func volume(k api.SpTask, box []pair) *big.Rat {
	product := whole(1)
	for i, p := range boxOf(k) {
		if p.width().Sign() > 0 {
			product = times(product, over(box[i].width(), p.width()))
		}
	}
	return product
}

// yield is what Yield has to return for a regular task.
func yield(k api.SpTask, spec pair, cuts int) api.SpYield {
	type item struct {
		box       []pair
		good, bad bool
	}
	itemOf := func(box []pair) item {
		good, bad := judged(k, box, spec)
		return item{box, good, bad}
	}
	list := []item{itemOf(boxOf(k))}
	for range cuts {
		chosen := -1
		for i, it := range list {
			if !it.good && !it.bad && (chosen < 0 || volume(k, it.box).Cmp(volume(k, list[chosen].box)) > 0) {
				chosen = i
			}
		}
		if chosen < 0 {
			break
		}
		param, most := -1, new(big.Rat)
		for i, p := range boxOf(k) {
			if p.width().Sign() == 0 {
				continue
			}
			if part := over(list[chosen].box[i].width(), p.width()); param < 0 || part.Cmp(most) > 0 {
				param, most = i, part
			}
		}
		lower, upper := slices.Clone(list[chosen].box), slices.Clone(list[chosen].box)
		lower[param].hi, upper[param].lo = lower[param].mid(), lower[param].mid()
		var next []item
		for i, it := range list {
			if i == chosen {
				next = append(next, itemOf(lower), itemOf(upper))
			} else {
				next = append(next, it)
			}
		}
		list = next
	}
	good, open := new(big.Rat), new(big.Rat)
	for _, it := range list {
		switch {
		case it.good:
			good = plus(good, volume(k, it.box))
		case !it.bad:
			open = plus(open, volume(k, it.box))
		}
	}
	return api.SpYield{Lo: textOf(good), Hi: textOf(plus(good, open)), Boxes: len(list)}
}

// count is what Count has to return.
func count(k api.SpTask, spec pair, n int) (in, all int) {
	var visit func(x []*big.Rat)
	visit = func(x []*big.Rat) {
		if len(x) == len(k.Ranges) {
			all++
			if v := at(k, x); v != nil && spec.has(v) {
				in++
			}
			return
		}
		p := pairOf(k.Ranges[len(x)])
		for j := range n {
			y := p.mid()
			if n > 1 {
				y = p.part(big.NewRat(int64(j), int64(n-1)))
			}
			visit(append(slices.Clone(x), y))
		}
	}
	visit(nil)
	return in, all
}

// scale is what Scale has to return, or nil.
func scale(k api.SpTask, spec pair, bits int) *big.Rat {
	var greatest *big.Rat
	for j := range 1<<bits + 1 {
		r := big.NewRat(int64(j), int64(1)<<bits)
		var box []pair
		for _, p := range boxOf(k) {
			h := over(p.width(), whole(2))
			box = append(box, pair{minus(p.mid(), times(r, h)), plus(p.mid(), times(r, h))})
		}
		if _, ends, ok := worst(k, box); ok && spec.has(ends.lo) && spec.has(ends.hi) {
			greatest = r
		} else if j == 0 {
			return nil
		}
	}
	return greatest
}
