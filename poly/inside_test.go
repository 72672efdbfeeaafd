package poly

import (
	"testing"

	"pentode/value"
)

// The tests of this file look at what the answers do not tell: that numbers stay short, and steps few.

// cosines is Chebyshev's polynomial of the degree n.
func cosines(n int) []value.Num {
	twice := []value.Num{value.Int(0), value.Int(2)}
	before, p := []value.Num{value.Int(1)}, []value.Num{value.Int(0), value.Int(1)}
	for range n - 1 {
		before, p = p, Sub(Mul(twice, p), before)
	}
	return p
}

func TestChainsHaveShortIntegers(t *testing.T) {
	third := over(value.Int(1), value.Int(3))
	for _, p := range [][]value.Num{cosines(20), Scale(cosines(20), third), Mul(cosines(9), cosines(10)), Sub(cosines(19), []value.Num{third, value.Int(7)})} {
		count := 0
		for f := range chainOf(p, Deriv(p)) {
			count++
			for _, c := range f {
				if value.Cmp(c, value.Floor(c)) != 0 {
					t.Fatalf("%s is no integer", value.Text(c))
				}
				if value.Digits(c) > 600 {
					t.Fatalf("%d digits", value.Digits(c))
				}
			}
		}
		if count < 10 {
			t.Errorf("%d polynomials in a chain", count)
		}
	}
}

func TestLongDenominators(t *testing.T) {
	long := value.Add(twoTo(9000), value.Int(1))
	p := []value.Num{over(value.Int(7), long), over(value.Int(-4), value.Mul(long, value.Int(3)))}
	if f := whole(p); len(f) != 2 || value.Text(f[0]) != "21" || value.Text(f[1]) != "-4" {
		t.Errorf("whole has %d coefficients", len(f))
	}
	if d := denominator(p[0]); value.Cmp(d, long) != 0 {
		t.Errorf("a denominator of %d digits, not %d", value.Digits(d), value.Digits(long))
	}
}

func TestFewSteps(t *testing.T) {
	square := []value.Num{value.Int(-2), value.Int(0), value.Int(1)}
	high := make([]value.Num, 41)
	high[0], high[40] = value.Int(-3), value.Int(1)
	for _, c := range []struct {
		f      []value.Num
		lo, hi int64 // hundredths
		most   int
	}{{square, 100, 200, 16}, {high, 100, 200, 40}, {high, -200, -100, 40}, {cosines(39), -97, -95, 24}} {
		lo, hi := over(value.Int(c.lo), value.Int(100)), over(value.Int(c.hi), value.Int(100))
		s := search{c.f, lo, hi, Eval(c.f, lo), Eval(c.f, hi), 1000}
		steps := 0
		for halvings := 1; !s.done(); halvings = s.step(halvings) {
			steps++
		}
		if steps > c.most {
			t.Errorf("%d steps for 1000 bits of a root of the degree %d", steps, Deg(c.f))
		}
	}
}
