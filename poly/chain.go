package poly

import (
	"iter"
	"slices"

	"pentode/value"
)

// chainOf yields Sturm's chain of f and g: each next one is the negative rest of dividing the two before it, times some
// number above 0, and the last one, if not both are 0, is a greatest common divisor. All have integers as coefficients.
func chainOf(f, g []value.Num) iter.Seq[[]value.Num] {
	return func(yield func([]value.Num) bool) {
		f, g := whole(f), whole(g)
		if !yield(f) {
			return
		}
		if len(f) < len(g) { // the quotient is 0, and the rest f
			if !yield(g) {
				return
			}
			f, g = g, Scale(f, value.Int(-1))
		}
		d := divisor{lead: value.Int(1), height: value.Int(1)}
		for len(g) > 0 {
			if !yield(g) {
				return
			}
			rest := negativeRest(f, g)
			d.divide(rest, len(f)-len(g))
			d.next(g, len(f)-len(g))
			f, g = g, rest
		}
	}
}

// negativeRest is the negative rest of f divided by g, times such a power of the highest coefficient of g, without its
// sign, that no division is needed.
func negativeRest(f, g []value.Num) []value.Num {
	n := len(g) - 1
	size, below := value.Abs(g[n]), value.Sign(g[n]) < 0
	rest := f
	for k := len(f) - len(g); k >= 0; k-- {
		factor := rest[n+k]
		if below {
			factor = value.Neg(factor)
		}
		next := make([]value.Num, n+k)
		for i := range next {
			next[i] = value.Mul(size, rest[i])
			if i >= k {
				next[i] = value.Sub(next[i], value.Mul(factor, g[i-k]))
			}
		}
		rest = next
	}
	return Scale(rest, value.Int(-1))
}

// divisor is what all coefficients of the next rest of a chain are certainly divisible by (the algorithm of
// subresultants of Collins and Brown): without dividing by it they would become much longer from rest to rest.
type divisor struct{ lead, height value.Num }

// divide divides a rest in place, where the degrees of what it is the rest of differ by more.
func (d divisor) divide(rest []value.Num, more int) {
	by := value.Mul(d.lead, power(d.height, more))
	for i, c := range rest {
		rest[i] = over(c, by)
	}
}

// next goes on to the divisor of the rest after this.
func (d *divisor) next(g []value.Num, more int) {
	d.lead = value.Abs(g[len(g)-1])
	d.height = value.Mul(power(d.lead, more), power(d.height, 1-more))
}

// power is x, which is not 0, to the power n, which is within the limit for the degrees of this package.
func power(x value.Num, n int) value.Num {
	z, _ := value.Pow(x, n)
	return z
}

// look tells the sign of a polynomial at some place.
type look func(f []value.Num) int

// at looks at a number.
func at(x value.Num) look {
	return func(f []value.Num) int { return value.Sign(Eval(f, x)) }
}

// farBelow looks at where all numbers are below all roots.
func farBelow(f []value.Num) int {
	if len(f)%2 == 0 {
		return -farAbove(f)
	}
	return farAbove(f)
}

// farAbove looks at where all numbers are above all roots.
func farAbove(f []value.Num) int {
	if len(f) == 0 {
		return 0
	}
	return value.Sign(f[len(f)-1])
}

// changes counts how often signs change, of those that are not 0.
type changes struct{ count, last int }

func (c *changes) add(sign int) {
	if sign == 0 {
		return
	}
	if sign == -c.last {
		c.count++
	}
	c.last = sign
}

// changesAt counts the changes along a chain.
func changesAt(chain [][]value.Num, place look) int {
	var c changes
	for _, f := range chain {
		c.add(place(f))
	}
	return c.count
}

// index is Cauchy's index of g divided by f between two places at which f is not 0: how often it jumps from below all
// numbers to above them, less how often back. common is a greatest common divisor.
func index(f, g []value.Num, lo, hi look) (n int, common []value.Num) {
	var atLo, atHi changes
	for f := range chainOf(f, g) {
		atLo.add(lo(f))
		atHi.add(hi(f))
		common = f
	}
	return atLo.count - atHi.count, common
}

// sturm is the chain of the polynomial that has the roots of p, each once, and of its derivative: the changes along it
// at lo, less those at hi, are the number of real roots above lo, up to hi.
func sturm(p []value.Num) [][]value.Num {
	l := slices.Collect(chainOf(p, Deriv(p)))
	if common := l[len(l)-1]; len(common) > 1 {
		simple, _ := divided(l[0], whole(common))
		l = slices.Collect(chainOf(simple, Deriv(simple)))
	}
	return l
}
