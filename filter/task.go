package filter

import (
	"pentode/api"
	"pentode/symbol"
	"pentode/value"
)

// symbolic is a polynomial in s and in symbols.
type symbolic struct {
	coefs  [api.MaxOrder + 1][]api.SyTerm // for each power of s, a polynomial in the symbols
	re, im []api.SyTerm                   // its parts for s = j w, as polynomials in w and the symbols
}

// symbolicOf takes a polynomial that symbol.Check accepts, or returns the error of one with a power of s that is too high.
func symbolicOf(p []api.SyTerm) (symbolic, api.Errno) {
	var f symbolic
	for _, t := range p {
		power := t.Pows[0]
		if power > api.MaxOrder {
			return symbolic{}, api.ErrLong
		}
		f.coefs[power] = append(f.coefs[power], api.SyTerm{Coef: t.Coef, Pows: t.Pows[1:]})
		if power%4 >= 2 {
			t.Coef = negative(t.Coef)
		}
		if power%2 == 0 {
			f.re = append(f.re, t)
		} else {
			f.im = append(f.im, t)
		}
	}
	return f, api.OK
}

// negative is the text of the negative number of a valid one.
func negative(v api.Val) api.Val {
	x, _ := value.Parse(v)
	return value.Text(value.Neg(x))
}

// at is the polynomial in s for numbers in place of the symbols.
func (f *symbolic) at(x []value.Num) []value.Num {
	var p []value.Num
	for _, coef := range f.coefs {
		c, _ := symbol.Eval(coef, x)
		p = append(p, c)
	}
	return p
}

// squareReach is the reach of the square of the size over a box of w and the symbols.
func (f *symbolic) squareReach(box []value.Span) value.Span {
	re, _ := symbol.Reach(f.re, box)
	im, _ := symbol.Reach(f.im, box)
	return value.SpanAdd(value.SpanPow(re, 2), value.SpanPow(im, 2))
}

// task is a task that is valid.
type task struct {
	num, den symbolic
	box      []value.Span // of the symbols
	mask     []band
}

// taskOf reads a task, or returns the first error in it.
func taskOf(from api.FlTask) (task, api.Errno) {
	if len(from.Box) > api.MaxFlSyms {
		return task{}, api.ErrLong
	}
	for _, p := range [...][]api.SyTerm{from.Num, from.Den} {
		if e := symbol.Check(p, len(from.Box)+1); e != api.OK {
			return task{}, e
		}
	}
	num, e := symbolicOf(from.Num)
	if e != api.OK {
		return task{}, e
	}
	den, e := symbolicOf(from.Den)
	if e != api.OK {
		return task{}, e
	}
	t := task{num: num, den: den}
	for _, r := range from.Box {
		s, e := value.SpanOf(r)
		if e != api.OK {
			return task{}, e
		}
		t.box = append(t.box, s)
	}
	t.mask, e = bandsOf(from.Mask)
	if e != api.OK {
		return task{}, e
	}
	return t, api.OK
}

// vertex is the numbers of a vertex.
func (t *task) vertex(number int) []value.Num {
	var x []value.Num
	for i, s := range t.box {
		ends := [...]value.Num{s.Lo, s.Hi}
		x = append(x, ends[number>>i&1])
	}
	return x
}

// firstUnmetVertex is the least vertex at which the mask is not met, and the first band that is not met there.
func (t *task) firstUnmetVertex() (band, number int, isFound bool) {
	for number := range 1 << len(t.box) {
		x := t.vertex(number)
		if band := responseOf(t.num.at(x), t.den.at(x)).firstUnmet(t.mask); band >= 0 {
			return band, number, true
		}
	}
	return 0, 0, false
}
