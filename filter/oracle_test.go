package filter_test

import (
	"math/big"
	"slices"

	"pentode/api"
	"pentode/poly"
	"pentode/value"
)

// This file has the chapter's definitions written again, with the library's fractions.

// frac is the fraction of a text, which has to be valid.
func frac(v api.Val) *big.Rat {
	x, ok := new(big.Rat).SetString(string(v))
	if !ok {
		panic("no number: " + string(v))
	}
	return x
}

func fracs(list []value.Num) []*big.Rat {
	var fs []*big.Rat
	for _, x := range list {
		fs = append(fs, frac(value.Text(x)))
	}
	return fs
}

func textOf(x *big.Rat) api.Val { return api.Val(x.RatString()) }

func numsOf(list []*big.Rat) []value.Num {
	var ns []value.Num
	for _, x := range list {
		n, _ := value.Parse(textOf(x))
		ns = append(ns, n)
	}
	return ns
}

func plus(x, y *big.Rat) *big.Rat    { return new(big.Rat).Add(x, y) }
func minus(x, y *big.Rat) *big.Rat   { return new(big.Rat).Sub(x, y) }
func product(x, y *big.Rat) *big.Rat { return new(big.Rat).Mul(x, y) }
func over(x, y *big.Rat) *big.Rat    { return new(big.Rat).Quo(x, y) }
func negative(x *big.Rat) *big.Rat   { return new(big.Rat).Neg(x) }
func whole(n int) *big.Rat           { return big.NewRat(int64(n), 1) }

// raised is x to the power n, factor by factor.
func raised(x *big.Rat, n int) *big.Rat {
	z := whole(1)
	for range n {
		z = product(z, x)
	}
	return z
}

// at is the value of a polynomial, power by power.
func at(p []*big.Rat, x *big.Rat) *big.Rat {
	sum := new(big.Rat)
	for k, c := range p {
		sum = plus(sum, product(c, raised(x, k)))
	}
	return sum
}

// squareAt is the square of the size of p(j w), power by power: j^k is 1, j, -1 and -j in turn.
func squareAt(p []*big.Rat, w *big.Rat) *big.Rat {
	parts := [2]*big.Rat{new(big.Rat), new(big.Rat)}
	for k, c := range p {
		x := product(c, raised(w, k))
		if k%4 >= 2 {
			x = negative(x)
		}
		parts[k%2] = plus(parts[k%2], x)
	}
	return plus(product(parts[0], parts[0]), product(parts[1], parts[1]))
}

// degree is that of p.
func degree(p []*big.Rat) int {
	n := len(p)
	for n > 0 && p[n-1].Sign() == 0 {
		n--
	}
	return n - 1
}

// fraction is the continued fraction of p, which is not 0, or nil and false.
func fraction(p []*big.Rat) ([]*big.Rat, bool) {
	n := degree(p)
	coefficient := func(p []*big.Rat, k int) *big.Rat {
		if k < 0 || k >= len(p) {
			return new(big.Rat)
		}
		return p[k]
	}
	var a, b, list []*big.Rat
	for k := range n + 1 {
		a, b = append(a, new(big.Rat)), append(b, new(big.Rat))
		if (n-k)%2 == 0 {
			a[k] = p[k]
		} else {
			b[k] = p[k]
		}
	}
	for range n {
		if degree(b) != degree(a)-1 {
			return nil, false
		}
		q := over(a[degree(a)], b[degree(b)])
		list = append(list, q)
		var rest []*big.Rat
		for k := range n + 1 {
			rest = append(rest, minus(coefficient(a, k), product(q, coefficient(b, k-1))))
		}
		a, b = b, rest
	}
	return list, true
}

// isBetween is whether the square of N is from least to most times the square of D.
func isBetween(num, den []*big.Rat, b api.FlBand, w *big.Rat) bool {
	n, d := squareAt(num, w), squareAt(den, w)
	return n.Cmp(product(frac(b.Least), d)) >= 0 && n.Cmp(product(frac(b.Most), d)) <= 0
}

// witness is the first number, up to a level, at which a band is not met, or nil.
func witness(num, den []*big.Rat, b api.FlBand, levels int) *big.Rat {
	lo, width := frac(b.Lo), minus(frac(b.Hi), frac(b.Lo))
	for k := range levels {
		for j := range 1<<k + 1 {
			w := plus(lo, product(width, big.NewRat(int64(j), 1<<k)))
			if !isBetween(num, den, b, w) {
				return w
			}
		}
	}
	return nil
}

// isNonneg is what Nonneg has to return, by the number of roots at which p changes its sign.
func isNonneg(p []value.Num, lo, hi value.Num) bool {
	sign := func(p []value.Num, x value.Num) int { return value.Sign(poly.Eval(p, x)) }
	if sign(p, lo) < 0 || sign(p, hi) < 0 {
		return false
	}
	if value.Cmp(lo, hi) == 0 || poly.Deg(p) < 1 {
		return true
	}
	odd := ints(1)
	parts, _ := poly.Parts(p)
	for i, part := range parts {
		if i%2 == 0 {
			odd = poly.Mul(odd, part)
		}
	}
	changes, _ := poly.Count(odd, lo, hi)
	if sign(odd, hi) == 0 {
		changes--
	}
	// Without changes p has the same sign at all numbers between the ends but its roots, of which it has at most as many as the degree.
	for j := 1; changes == 0; j++ {
		x := value.Add(lo, value.Mul(ratio(j, poly.Deg(p)+2), value.Sub(hi, lo)))
		if s := sign(p, x); s != 0 {
			return s > 0
		}
	}
	return false
}

// isMet is whether a band is met.
func isMet(num, den []*big.Rat, b api.FlBand) bool {
	square := func(p []*big.Rat) []value.Num {
		var parts [2][]value.Num
		for k, c := range numsOf(p) {
			if k%4 >= 2 {
				c = value.Neg(c)
			}
			parts[k%2] = poly.Add(parts[k%2], poly.Scale(power(k), c))
		}
		return poly.Add(times(parts[0], 2), times(parts[1], 2))
	}
	read := func(v api.Val) value.Num {
		x, _ := value.Parse(v)
		return x
	}
	n, d := square(num), square(den)
	lo, hi := read(b.Lo), read(b.Hi)
	return isNonneg(poly.Sub(n, poly.Scale(d, read(b.Least))), lo, hi) && isNonneg(poly.Sub(poly.Scale(d, read(b.Most)), n), lo, hi)
}

// form is a polynomial in s and symbols: a number for each list of powers.
type form map[[5]int]*big.Rat

func formOf(p []api.SyTerm) form {
	f := form{}
	for _, t := range p {
		var pows [5]int
		copy(pows[:], t.Pows)
		if f[pows] == nil {
			f[pows] = new(big.Rat)
		}
		f[pows] = plus(f[pows], frac(t.Coef))
	}
	return f
}

// at is the polynomial in s for numbers of the symbols.
func (f form) at(x []*big.Rat) []*big.Rat {
	p := make([]*big.Rat, api.MaxOrder+1)
	for k := range p {
		p[k] = new(big.Rat)
	}
	for pows, c := range f {
		for i, y := range x {
			c = product(c, raised(y, pows[i+1]))
		}
		p[pows[0]] = plus(p[pows[0]], c)
	}
	return p
}

// pair is a span with its ends in order.
type pair struct{ lo, hi *big.Rat }

// hull is the least span of some numbers.
func hull(list ...*big.Rat) pair {
	return pair{slices.MinFunc(list, (*big.Rat).Cmp), slices.MaxFunc(list, (*big.Rat).Cmp)}
}

func pairOf(r api.Range) pair    { return pair{frac(r.Lo), frac(r.Hi)} }
func (p pair) width() *big.Rat   { return minus(p.hi, p.lo) }
func (p pair) plus(q pair) pair  { return pair{plus(p.lo, q.lo), plus(p.hi, q.hi)} }
func (p pair) minus(q pair) pair { return pair{minus(p.lo, q.hi), minus(p.hi, q.lo)} }
func (p pair) times(q pair) pair {
	return hull(product(p.lo, q.lo), product(p.lo, q.hi), product(p.hi, q.lo), product(p.hi, q.hi))
}

// power is the least span of all powers.
func (p pair) power(n int) pair {
	ends := []*big.Rat{raised(p.lo, n), raised(p.hi, n)}
	if n > 0 && p.lo.Sign() < 0 && p.hi.Sign() > 0 {
		ends = append(ends, new(big.Rat))
	}
	return hull(ends...)
}

// squareReach is the reach of the square over a box of w and the symbols.
func (f form) squareReach(box []pair) pair {
	parts := [2]pair{hull(new(big.Rat)), hull(new(big.Rat))}
	for pows, c := range f {
		if pows[0]%4 >= 2 {
			c = negative(c)
		}
		term := hull(c)
		for v, p := range box {
			term = term.times(p.power(pows[v]))
		}
		parts[pows[0]%2] = parts[pows[0]%2].plus(term)
	}
	return parts[0].power(2).plus(parts[1].power(2))
}

// isProved is whether a box is proved for a band.
func isProved(num, den form, b api.FlBand, box []pair) bool {
	n, d := num.squareReach(box), den.squareReach(box)
	return hull(frac(b.Most)).times(d).minus(n).lo.Sign() >= 0 && n.minus(hull(frac(b.Least)).times(d)).lo.Sign() >= 0
}

// corner is a vertex of a box.
func corner(box []api.Range, number int) []*big.Rat {
	var x []*big.Rat
	for _, r := range box {
		p := pairOf(r)
		if number%2 == 1 {
			x = append(x, p.hi)
		} else {
			x = append(x, p.lo)
		}
		number /= 2
	}
	return x
}

// proved is what Prove has to return for a valid task.
func proved(t api.FlTask, cuts int) (verdict, band, vertex int) {
	num, den := formOf(t.Num), formOf(t.Den)
	for vertex := range 1 << len(t.Box) {
		x := corner(t.Box, vertex)
		for i, b := range t.Mask {
			if !isMet(num.at(x), den.at(x), b) {
				return -1, i, vertex
			}
		}
	}
	type item struct {
		band int
		box  []pair
	}
	whole := func(band int) []pair {
		box := []pair{{frac(t.Mask[band].Lo), frac(t.Mask[band].Hi)}}
		for _, r := range t.Box {
			box = append(box, pairOf(r))
		}
		return box
	}
	var list []item
	for i := range t.Mask {
		list = append(list, item{i, whole(i)})
	}
	for len(list) > 0 {
		first := list[0]
		if isProved(num, den, t.Mask[first.band], first.box) {
			list = list[1:]
			continue
		}
		chosen, most := -1, new(big.Rat)
		for v, p := range first.box {
			if p.width().Sign() == 0 {
				continue
			}
			if part := over(p.width(), whole(first.band)[v].width()); part.Cmp(most) > 0 {
				chosen, most = v, part
			}
		}
		if cuts == 0 || chosen < 0 {
			return 0, first.band, 0
		}
		cuts--
		lower, upper := slices.Clone(first.box), slices.Clone(first.box)
		middle := over(plus(first.box[chosen].lo, first.box[chosen].hi), big.NewRat(2, 1))
		lower[chosen].hi, upper[chosen].lo = middle, middle
		list = append([]item{{first.band, lower}, {first.band, upper}}, list[1:]...)
	}
	return 1, 0, 0
}
