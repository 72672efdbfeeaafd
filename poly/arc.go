package poly

import (
	"pentode/api"
	"pentode/value"
)

// patience is how often a side is halved at one place until it is looked whether there is a root on it: on sides without
// roots, so many halvings are seldom needed, and what the two parts have in common may take long to find.
const patience = 200

// side is what a polynomial is along a side of a rectangle: its two parts, for the numbers from 0 to 1 that lead along it.
type side struct{ re, im []value.Num }

// arc is a piece of a side: the controls of its parts, and how often the side was halved for it.
type arc struct {
	re, im []value.Num
	depth  int
}

// turns is by how many quarters of the plane a side turns around 0 to the left, or ErrEdge if it passes through 0.
func (s side) turns() (int, api.Errno) {
	all := arc{re: controls(s.re), im: controls(s.im)}
	n, from, looked := 0, all.quarterAt(first), false
	for stack := []arc{all}; len(stack) > 0; {
		top := len(stack) - 1
		a := stack[top]
		stack = stack[:top]
		if !keepsSign(a.re) && !keepsSign(a.im) {
			if a.depth == patience && !looked {
				looked = true
				if s.hasRoot() {
					return 0, ErrEdge
				}
			}
			before, behind := a.halves()
			stack = append(stack, behind, before)
			continue
		}
		// Within half a plane the arc gets to the same quarter again, or to one next to it.
		to := a.quarterAt(last)
		switch (to - from + 4) % 4 {
		case 1:
			n++
		case 3:
			n--
		}
		from = to
	}
	return n, api.OK
}

// hasRoot reports whether both parts are 0 at a number from 0 to 1.
func (s side) hasRoot() bool {
	chain := sturm(commonDivisor(s.re, s.im))
	lo, hi := at(value.Int(0)), at(value.Int(1))
	return lo(chain[0]) == 0 || countRoots(chain, lo, hi) > 0
}

// halves cuts the arc in the middle.
func (a arc) halves() (before, behind arc) {
	re, moreRe := halves(a.re)
	im, moreIm := halves(a.im)
	return arc{re, im, a.depth + 1}, arc{moreRe, moreIm, a.depth + 1}
}

// quarterAt is the quarter of the plane in which an end of the arc is. They are counted from 0 to 3 to the left, and each
// one has the half axis where it begins.
func (a arc) quarterAt(end look) int {
	here := signs{end(a.re), end(a.im)}
	for i, begin := range [3][2]signs{{{1, 0}, {1, 1}}, {{0, 1}, {-1, 1}}, {{-1, 0}, {-1, -1}}} {
		if here == begin[0] || here == begin[1] {
			return i
		}
	}
	return 3
}

// controls are Bernstein's coefficients of f from 0 to 1, times a number above 0 that makes them integers: all values of
// f there are between the least and the greatest of them, and the first one and the last one are those at the ends.
func controls(f []value.Num) []value.Num {
	n := max(Deg(f), 0)
	c := make([]value.Num, n+1)
	choices := value.Int(1) // of k out of n
	for k := range c {
		c[k] = over(coefficient(f, k), choices)
		choices = over(value.Mul(choices, value.Int(int64(n-k))), value.Int(int64(k+1)))
	}
	unit := multiplier(c)
	for k := range c {
		c[k] = value.Mul(c[k], unit)
	}
	for i := 1; i <= n; i++ {
		for k := n; k >= i; k-- {
			c[k] = value.Add(c[k], c[k-1])
		}
	}
	return c
}

// first looks at controls, where they begin.
func first(c []value.Num) int {
	return value.Sign(c[0])
}

// last looks at controls, where they end.
func last(c []value.Num) int {
	return value.Sign(c[len(c)-1])
}

// keepsSign reports whether all controls have the same sign, which is not 0: so the values have it as well.
func keepsSign(c []value.Num) bool {
	for _, x := range c {
		if value.Sign(x) == 0 || value.Sign(x) != first(c) {
			return false
		}
	}
	return true
}

// halves are the controls of both halves, found by the sums of neighbours, the sums of these, and so on (de Casteljau).
// All are multiplied by the same power of two, so that integers stay integers.
func halves(c []value.Num) (before, behind []value.Num) {
	n := len(c) - 1
	before, behind = make([]value.Num, n+1), make([]value.Num, n+1)
	sums := append([]value.Num(nil), c...)
	for i := range before {
		before[i], behind[n-i] = sums[0], sums[n-i]
		for k := range sums[:n-i] {
			sums[k] = value.Add(sums[k], sums[k+1])
		}
	}
	unit := value.Int(1)
	for i := n; i >= 0; i-- {
		before[i], behind[n-i] = value.Mul(before[i], unit), value.Mul(behind[n-i], unit)
		unit = value.Mul(unit, value.Int(2))
	}
	return before, behind
}
