package filter_test

import (
	"math"
	"testing"

	"pentode/api"
	"pentode/filter"
	"pentode/poly"
	"pentode/value"
)

func TestP8_5Bilinear(t *testing.T) {
	g := newNumbers()
	for range 200 {
		p, period := g.poly(7), g.above()
		n := max(poly.Deg(p), 0) + g.below(3)
		got, e := filter.Bilinear(p, n, period)
		sameValues(t, "Bilinear of "+show(p), got, e, n, func(z value.Num) value.Num {
			above, below := value.Sub(z, value.Int(1)), value.Add(z, value.Int(1))
			s := quotient(value.Mul(value.Int(2), above), value.Mul(period, below))
			return value.Mul(raise(below, n), poly.Eval(p, s))
		})
	}
}

func TestP8_5Back(t *testing.T) {
	g := newNumbers()
	for range 200 {
		q := g.poly(7)
		period := value.Add(g.above(), ratio(1, 97)) // so that none of the numbers makes 1 - s t / 2 to 0
		n := max(poly.Deg(q), 0) + g.below(3)
		got, e := filter.Back(q, n, period)
		sameValues(t, "Back of "+show(q), got, e, n, func(s value.Num) value.Num {
			half := quotient(value.Mul(s, period), value.Int(2))
			below := value.Sub(value.Int(1), half)
			return value.Mul(raise(below, n), poly.Eval(q, quotient(value.Add(value.Int(1), half), below)))
		})
	}
}

func TestP8_5ErrorsOfTransforms(t *testing.T) {
	one, zero, below := value.Int(1), value.Int(0), value.Int(-1)
	zeros := make([]value.Num, 70)
	for _, c := range []struct {
		p    []value.Num
		n    int
		time value.Num
		e    api.Errno
	}{
		{power(41), -1, zero, api.ErrLong}, {power(41), 41, one, api.ErrLong}, {power(2), 1, one, api.ErrRange}, {power(2), -1, one, api.ErrRange}, {nil, -1, one, api.ErrRange},
		{power(2), 41, one, api.ErrRange}, {power(2), 2, zero, api.ErrRange}, {power(2), 2, below, api.ErrRange}, {power(2), math.MaxInt, one, api.ErrRange},
		{nil, math.MinInt, one, api.ErrRange}, {power(2), 2, one, api.OK}, {power(40), 40, one, api.OK}, {append(power(2), zeros...), 2, one, api.OK}, {ints(3), 0, one, api.OK},
	} {
		q, e := filter.Bilinear(c.p, c.n, c.time)
		hasError(t, "Bilinear", q, e, c.e)
		q, e = filter.Back(c.p, c.n, c.time)
		hasError(t, "Back", q, e, c.e)
	}
	for _, n := range []int{0, 5, 40} {
		q, e := filter.Bilinear(zeros, n, one)
		isList(t, "Bilinear of 0", q, e, "", api.OK)
		q, e = filter.Back(nil, n, one)
		isList(t, "Back of 0", q, e, "", api.OK)
	}
}

// circle counts roots inside of the unit circle, on it, and outside of it.
type circle [3]int

// factor is a polynomial whose roots are known.
func (g *numbers) factor() ([]value.Num, circle) {
	side := func(x value.Num) int { return 1 + value.Cmp(x, value.Int(1)) }
	var c circle
	if g.below(2) == 0 {
		root := g.num()
		if g.below(3) == 0 {
			root = ratio(2*g.below(2)-1, 1)
		}
		c[side(value.Abs(root))] = 1
		return []value.Num{value.Neg(root), value.Int(1)}, c
	}
	// A pair of roots that are not real has the product of their squares as the lowest coefficient.
	for {
		square, sum := g.above(), g.num()
		if g.below(3) == 0 {
			square = value.Int(1)
		}
		if value.Cmp(value.Mul(sum, sum), value.Mul(value.Int(4), square)) < 0 {
			c[side(square)] = 2
			return []value.Num{square, sum, value.Int(1)}, c
		}
	}
}

func TestP8_5Schur(t *testing.T) {
	g := newNumbers()
	for range 600 {
		q, want := []value.Num{g.above()}, circle{}
		for range g.below(9) {
			f, c := g.factor()
			for range 1 + g.below(6)/5*2 {
				q = poly.Mul(q, f)
				for i, n := range c {
					want[i] += n
				}
			}
		}
		inside, on, outside, e := filter.Schur(q)
		if (circle{inside, on, outside}) != want || e != api.OK {
			t.Fatalf("Schur of %s = %d, %d, %d, %d, not %v", show(q), inside, on, outside, e, want)
		}
	}
}

func TestP8_5ErrorsOfSchur(t *testing.T) {
	for want, q := range map[api.Errno][]value.Num{api.ErrLong: power(41), api.ErrZero: make([]value.Num, 50)} {
		if inside, on, outside, e := filter.Schur(q); inside != 0 || on != 0 || outside != 0 || e != want {
			t.Errorf("Schur = %d, %d, %d, %d, not %d", inside, on, outside, e, want)
		}
	}
	for _, c := range []struct {
		q    []value.Num
		want circle
	}{{ints(-3), circle{}}, {power(40), circle{40, 0, 0}}, {times(ints(1, 1), 40), circle{0, 40, 0}}, {append(ints(1), power(39)...), circle{0, 40, 0}}, {times(ints(5, 0, 1), 20), circle{0, 0, 40}}} {
		inside, on, outside, e := filter.Schur(c.q)
		if (circle{inside, on, outside}) != c.want || e != api.OK {
			t.Errorf("Schur of %s = %d, %d, %d, %d, not %v", show(c.q), inside, on, outside, e, c.want)
		}
	}
}

func TestP8_11ThereAndBack(t *testing.T) {
	g := newNumbers()
	for i := range 200 {
		p, period := g.poly(8), g.above()
		n := max(poly.Deg(p), 0) + g.below(3)
		if i == 0 {
			p, n = poly.Add(g.poly(9), power(40)), 40
		}
		q, _ := filter.Bilinear(p, n, period)
		same, e := filter.Back(q, n, period)
		double := raise(value.Int(2), n)
		isList(t, "Back of Bilinear of "+show(p), same, e, show(poly.Scale(p, double)), api.OK)
	}
}

func TestP8_11Hurwitz(t *testing.T) {
	g := newNumbers()
	stable, unstable := 0, 0
	for i := range 400 {
		p := g.nonzero(5)
		if i%3 == 0 {
			p = g.hurwitz(g.below(8))
		}
		n := poly.Deg(p)
		q, e := filter.Bilinear(p, n, g.above())
		if e != api.OK {
			t.Fatal(e)
		}
		inside, on, outside, e := filter.Schur(q)
		if e != api.OK || inside+on+outside != poly.Deg(q) {
			t.Fatalf("Schur of %s = %d, %d, %d, %d", show(q), inside, on, outside, e)
		}
		// The transform may have a lesser degree: then it lacks roots that would be far outside.
		if is := inside == n; is != isHurwitz(p) {
			t.Errorf("%s: %d roots of %s are inside", show(p), inside, show(q))
		}
		if isHurwitz(p) {
			stable++
		} else {
			unstable++
		}
	}
	if stable < 100 || unstable < 100 {
		t.Errorf("%d are Hurwitz, %d are not", stable, unstable)
	}
}
