package symbol_test

import (
	"fmt"
	"math/big"
	"slices"
	"strings"
	"testing"

	"pentode/api"
	"pentode/value"
)

// This file has the chapter's definitions written again, with the library's fractions.

// frac is the fraction of a text, which has to be valid.
func frac(v api.Val) *big.Rat {
	x, ok := new(big.Rat).SetString(string(v))
	if !ok {
		panic("no number: " + string(v))
	}
	return x
}

func fracs(list []value.Num) []*big.Rat {
	var fs []*big.Rat
	for _, x := range list {
		fs = append(fs, frac(value.Text(x)))
	}
	return fs
}

func ratio(a, b int64) *big.Rat      { return big.NewRat(a, b) }
func plus(x, y *big.Rat) *big.Rat    { return new(big.Rat).Add(x, y) }
func minus(x, y *big.Rat) *big.Rat   { return new(big.Rat).Sub(x, y) }
func times(x, y *big.Rat) *big.Rat   { return new(big.Rat).Mul(x, y) }
func divided(x, y *big.Rat) *big.Rat { return new(big.Rat).Quo(x, y) }
func size(x *big.Rat) *big.Rat       { return new(big.Rat).Abs(x) }
func lesser(x, y *big.Rat) *big.Rat {
	if x.Cmp(y) < 0 {
		return x
	}
	return y
}
func greater(x, y *big.Rat) *big.Rat {
	if x.Cmp(y) > 0 {
		return x
	}
	return y
}

// power is x to the power n, factor by factor.
func power(x *big.Rat, n int) *big.Rat {
	product := ratio(1, 1)
	for range n {
		product = times(product, x)
	}
	return product
}

// form is a polynomial: a number for each list of powers.
type form map[[10]int]*big.Rat

func formOf(p []api.SyTerm) form {
	f := form{}
	for _, t := range p {
		var pows [10]int
		copy(pows[:], t.Pows)
		f.add(pows, frac(t.Coef))
	}
	return f
}

// constant is a form that has no variables.
func constant(x *big.Rat) form {
	return form{{}: x}
}

// variable is the power 1 of a variable.
func variable(v int) form {
	var pows [10]int
	pows[v] = 1
	return form{pows: ratio(1, 1)}
}

func (f form) add(pows [10]int, x *big.Rat) {
	if f[pows] == nil {
		f[pows] = new(big.Rat)
	}
	f[pows] = plus(f[pows], x)
}

func (f form) plus(h form) form {
	s := form{}
	for _, from := range []form{f, h} {
		for pows, x := range from {
			s.add(pows, x)
		}
	}
	return s
}

func (f form) times(h form) form {
	p := form{}
	for a, x := range f {
		for b, y := range h {
			pows := a
			for v := range pows {
				pows[v] += b[v]
			}
			p.add(pows, times(x, y))
		}
	}
	return p
}

func (f form) scaled(x *big.Rat) form { return f.times(constant(x)) }
func (f form) minus(h form) form      { return f.plus(h.scaled(ratio(-1, 1))) }

func (f form) slope(v int) form {
	d := form{}
	for pows, x := range f {
		if n := pows[v]; n > 0 {
			pows[v]--
			d.add(pows, times(x, ratio(int64(n), 1)))
		}
	}
	return d
}

// keys are the powers of terms that are not 0, ascending.
func (f form) keys() [][10]int {
	var keys [][10]int
	for pows, x := range f {
		if x.Sign() != 0 {
			keys = append(keys, pows)
		}
	}
	slices.SortFunc(keys, func(a, b [10]int) int { return slices.Compare(a[:], b[:]) })
	return keys
}

// text is the canonical form with so many variables.
func (f form) text(vars int) string {
	var parts []string
	for _, pows := range f.keys() {
		part := f[pows].RatString()
		for _, n := range pows[:vars] {
			part += fmt.Sprintf(" %d", n)
		}
		parts = append(parts, part)
	}
	return strings.Join(parts, ", ")
}

// tooLong is whether a result with this polynomial is too long.
func (f form) tooLong() bool {
	keys := f.keys()
	for _, pows := range keys {
		x := f[pows]
		if slices.Max(pows[:]) > api.MaxSyPow || len(size(x).Num().String()) > api.MaxDigits || len(x.Denom().String()) > api.MaxDigits {
			return true
		}
	}
	return len(keys) > api.MaxSyTerms
}

func (f form) at(x []*big.Rat) *big.Rat {
	sum := new(big.Rat)
	for pows, c := range f {
		for v, at := range x {
			c = times(c, power(at, pows[v]))
		}
		sum = plus(sum, c)
	}
	return sum
}

// pair is a span.
type pair struct{ lo, hi *big.Rat }

// hull is the least span of some numbers.
func hull(list ...*big.Rat) pair {
	p := pair{list[0], list[0]}
	for _, x := range list {
		p = pair{lesser(p.lo, x), greater(p.hi, x)}
	}
	return p
}

func pairs(box []value.Span) []pair {
	var list []pair
	for _, s := range box {
		list = append(list, hull(fracs([]value.Num{s.Lo, s.Hi})...))
	}
	return list
}

func (p pair) plus(q pair) pair { return pair{plus(p.lo, q.lo), plus(p.hi, q.hi)} }
func (p pair) times(q pair) pair {
	return hull(times(p.lo, q.lo), times(p.lo, q.hi), times(p.hi, q.lo), times(p.hi, q.hi))
}

// power is the least span of all powers.
func (p pair) power(n int) pair {
	ends := []*big.Rat{power(p.lo, n), power(p.hi, n)}
	if n > 0 && p.lo.Sign() < 0 && p.hi.Sign() > 0 {
		ends = append(ends, new(big.Rat))
	}
	return hull(ends...)
}

func (p pair) least() *big.Rat {
	if p.lo.Sign() <= 0 && p.hi.Sign() >= 0 {
		return new(big.Rat)
	}
	return lesser(size(p.lo), size(p.hi))
}

func (p pair) greatest() *big.Rat { return greater(size(p.lo), size(p.hi)) }
func (p pair) String() string     { return p.lo.RatString() + " " + p.hi.RatString() }

func (f form) reach(box []pair) pair {
	sum := hull(new(big.Rat))
	for _, pows := range f.keys() {
		product := hull(f[pows])
		for v, s := range box {
			product = product.times(s.power(pows[v]))
		}
		sum = sum.plus(product)
	}
	return sum
}

// parts are the real and the imaginary one.
func (f form) parts() [2]form {
	p := [2]form{{}, {}}
	for pows, x := range f {
		switch pows[0] % 4 {
		case 0, 1:
			p[pows[0]%4].add(pows, x)
		default:
			p[pows[0]%4-2].add(pows, new(big.Rat).Neg(x))
		}
	}
	return p
}

func (f form) low(box []pair) *big.Rat {
	p := f.parts()
	return greater(p[0].reach(box).least(), p[1].reach(box).least())
}

// dropped is what Drop returns, for an eps that is valid; nil if the low size is 0.
func (f form) dropped(box []pair, eps *big.Rat) (form, *big.Rat) {
	low := f.low(box)
	if low.Sign() == 0 {
		return nil, nil
	}
	kept, lost := f.plus(form{}), new(big.Rat)
	for {
		var least [10]int
		var weight *big.Rat
		for _, pows := range kept.keys() {
			w := form{pows: kept[pows]}.reach(box).greatest()
			if weight == nil || w.Cmp(weight) < 0 {
				least, weight = pows, w
			}
		}
		if weight == nil || plus(lost, weight).Cmp(times(eps, low)) > 0 {
			return kept, divided(lost, low)
		}
		lost = plus(lost, weight)
		delete(kept, least)
	}
}

// squareAt is the square of the size at j w, where w is the first number.
func (f form) squareAt(x []*big.Rat) *big.Rat {
	p := f.parts()
	re, im := p[0].at(x), p[1].at(x)
	return plus(times(re, re), times(im, im))
}

// law is a task by the definitions.
type law struct {
	api.SyTask
	own []int // the numbers of elements that carry a current of their own
}

func lawOf(t api.SyTask) law { return law{t, carriers(t.Net)} }

func (l law) size() int { return l.Net.Nodes + len(l.own) }

// flow is the number of the unknown that is the current of an element.
func (l law) flow(elem int) int {
	return l.Net.Nodes + slices.Index(l.own, elem)
}

// val is what stands for the value of an element, or for its reciprocal.
func (l law) val(elem int) form {
	if k := slices.Index(l.Syms, elem); k >= 0 {
		return variable(1 + k)
	}
	e := l.Net.Elems[elem]
	if e.Kind == api.ElR || e.Kind == api.ElS {
		return constant(divided(ratio(1, 1), frac(e.Val)))
	}
	return constant(frac(e.Val))
}

// volt is the unknown that is the voltage of a node, multiplied by f.
func (l law) volt(node int, f form) map[int]form {
	if node == 0 {
		return nil
	}
	return map[int]form{node - 1: f}
}

// across is a voltage between two nodes, multiplied by f.
func (l law) across(a, b int, f form) map[int]form {
	return joined(l.volt(a, f), l.volt(b, f.scaled(ratio(-1, 1))))
}

func joined(rows ...map[int]form) map[int]form {
	sum := map[int]form{}
	for _, row := range rows {
		for k, f := range row {
			sum[k] = f.plus(sum[k])
		}
	}
	return sum
}

// current is that of an element, by the unknowns.
func (l law) current(i int) map[int]form {
	e := l.Net.Elems[i]
	switch e.Kind {
	case api.ElR:
		return l.across(e.A, e.B, l.val(i))
	case api.ElC:
		return l.across(e.A, e.B, l.val(i).times(variable(0)))
	case api.ElS:
		if e.Ref == 1 {
			return l.across(e.A, e.B, l.val(i))
		}
	case api.ElG:
		return l.across(e.C, e.D, l.val(i))
	case api.ElF:
		return map[int]form{l.flow(e.Ref): l.val(i)}
	case api.ElL, api.ElV, api.ElE, api.ElH:
		return map[int]form{l.flow(i): constant(ratio(1, 1))}
	}
	return nil
}

// equation is that of an element with a current of its own.
func (l law) equation(i int) map[int]form {
	e := l.Net.Elems[i]
	volts := l.across(e.A, e.B, constant(ratio(1, 1)))
	less := l.val(i).scaled(ratio(-1, 1))
	switch e.Kind {
	case api.ElL:
		return joined(volts, map[int]form{l.flow(i): less.times(variable(0))})
	case api.ElE:
		return joined(volts, l.across(e.C, e.D, less))
	case api.ElH:
		return joined(volts, map[int]form{l.flow(e.Ref): less})
	}
	return volts
}

func (l law) matrix() [][]form {
	var rows []map[int]form
	for node := 1; node <= l.Net.Nodes; node++ {
		row := map[int]form{}
		for i, e := range l.Net.Elems {
			if e.A == node {
				row = joined(row, l.current(i))
			}
			if e.B == node {
				for k, f := range l.current(i) {
					row = joined(row, map[int]form{k: f.scaled(ratio(-1, 1))})
				}
			}
		}
		rows = append(rows, row)
	}
	for _, i := range l.own {
		rows = append(rows, l.equation(i))
	}
	var m [][]form
	for _, row := range rows {
		var line []form
		for k := range l.size() {
			line = append(line, row[k].plus(nil))
		}
		m = append(m, line)
	}
	return m
}

func (l law) right() []*big.Rat {
	right := make([]*big.Rat, l.size())
	for i := range right {
		right[i] = new(big.Rat)
	}
	e := l.Net.Elems[l.In]
	if e.Kind == api.ElV {
		right[l.flow(l.In)] = ratio(1, 1)
		return right
	}
	if e.A > 0 {
		right[e.A-1] = minus(right[e.A-1], ratio(1, 1))
	}
	if e.B > 0 {
		right[e.B-1] = plus(right[e.B-1], ratio(1, 1))
	}
	return right
}

// determinant is that of a matrix, along its first column.
func determinant(m [][]form) form {
	if len(m) == 0 {
		return constant(ratio(1, 1))
	}
	sum := form{}
	for i, row := range m {
		if len(row[0].keys()) == 0 {
			continue
		}
		var rest [][]form
		for k, other := range m {
			if k != i {
				rest = append(rest, other[1:])
			}
		}
		part := row[0].times(determinant(rest))
		if i%2 == 1 {
			part = part.scaled(ratio(-1, 1))
		}
		sum = sum.plus(part)
	}
	return sum
}

// transfer are numerator and denominator.
func (l law) transfer() (num, den form) {
	m := l.matrix()
	den = determinant(m)
	for i, x := range l.right() {
		m[i][l.Out] = constant(x)
	}
	return determinant(m), den
}

// list is a polynomial of s as a list of numbers.
func (f form) list() string {
	var words []string
	for _, pows := range f.keys() {
		for len(words) < pows[0] {
			words = append(words, "0")
		}
		words = append(words, f[pows].RatString())
	}
	return strings.Join(words, " ")
}

// The oracle itself holds against a polynomial that is written out.
func TestOracle(t *testing.T) {
	f := formOf(terms("2 1 0, 3 0 1, -1 0 0")) // 2 x + 3 y - 1
	if got := f.times(f).text(2); got != "1 0 0, -6 0 1, 9 0 2, -4 1 0, 12 1 1, 4 2 0" {
		t.Errorf("the square is %s", got)
	}
	if got := f.at([]*big.Rat{ratio(1, 2), ratio(5, 1)}); got.Cmp(ratio(15, 1)) != 0 {
		t.Errorf("the value is %s", got)
	}
	if got := f.reach([]pair{{ratio(-1, 1), ratio(2, 1)}, {ratio(0, 1), ratio(1, 1)}}).String(); got != "-3 6" {
		t.Errorf("the reach is %s", got)
	}
}
