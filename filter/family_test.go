package filter_test

import (
	"math"
	"testing"

	"pentode/api"
	"pentode/filter"
	"pentode/poly"
	"pentode/value"
)

// Bessel's polynomials have a recurrence, which the chapter does not name.
func TestP8_1Bessel(t *testing.T) {
	before, p := ints(1), ints(1, 1)
	for n := 0; n <= api.MaxOrder; n++ {
		got, e := filter.Bessel(n)
		isList(t, "Bessel", got, e, show(before), api.OK)
		next := poly.Add(poly.Scale(p, value.Int(int64(2*n+3))), poly.Mul(power(2), before))
		before, p = p, next
	}
}

func TestP8_1Binomial(t *testing.T) {
	for n := 0; n <= api.MaxOrder; n++ {
		got, e := filter.Binomial(n)
		isList(t, "Binomial", got, e, show(times(ints(1, 1), n)), api.OK)
	}
}

func TestP8_1Errors(t *testing.T) {
	for _, n := range []int{-1, 21, 22, 100, math.MaxInt, math.MinInt} {
		p, e := filter.Bessel(n)
		isList(t, "Bessel", p, e, "", api.ErrRange)
		p, e = filter.Binomial(n)
		isList(t, "Binomial", p, e, "", api.ErrRange)
	}
}

// sameValues holds a polynomial against a function, at more numbers than its degree.
func sameValues(t *testing.T, what string, p []value.Num, e api.Errno, most int, want func(x value.Num) value.Num) {
	t.Helper()
	if e != api.OK || len(p)-1 != poly.Deg(p) || len(p)-1 > most {
		t.Errorf("%s = %s, %d", what, show(p), e)
	}
	for j := range most + 2 {
		x := ratio(2*j+1, 3)
		if got := poly.Eval(p, x); value.Cmp(got, want(x)) != 0 {
			t.Fatalf("%s = %s is %s at %s, not %s", what, show(p), value.Text(got), value.Text(x), value.Text(want(x)))
		}
	}
}

// raise is x to the power n.
func raise(x value.Num, n int) value.Num {
	z, _ := value.Pow(x, n)
	return z
}

func TestP8_2Denorm(t *testing.T) {
	g := newNumbers()
	for range 200 {
		p, w := g.poly(9), g.above()
		got, e := filter.Denorm(p, w)
		sameValues(t, "Denorm of "+show(p), got, e, 9, func(x value.Num) value.Num { return poly.Eval(p, quotient(x, w)) })
	}
	p, e := filter.Denorm(nil, value.Int(1))
	isList(t, "Denorm of 0", p, e, "", api.OK)
	p, e = filter.Denorm(power(40), value.Int(2))
	if e != api.OK || poly.Deg(p) != 40 {
		t.Errorf("Denorm of the greatest degree: %d", e)
	}
}

func TestP8_2High(t *testing.T) {
	g := newNumbers()
	for range 200 {
		p := g.nonzero(9)
		got, e := filter.High(p)
		sameValues(t, "High of "+show(p), got, e, 9, func(x value.Num) value.Num {
			return value.Mul(raise(x, poly.Deg(p)), poly.Eval(p, quotient(value.Int(1), x)))
		})
	}
}

func TestP8_2Band(t *testing.T) {
	g := newNumbers()
	for range 200 {
		p, b, w2 := g.nonzero(7), g.above(), g.above()
		got, e := filter.Band(p, b, w2)
		sameValues(t, "Band of "+show(p), got, e, 14, func(x value.Num) value.Num {
			bx := value.Mul(b, x)
			return value.Mul(raise(bx, poly.Deg(p)), poly.Eval(p, quotient(value.Add(value.Mul(x, x), w2), bx)))
		})
	}
	p, e := filter.Band(times(ints(1, 1), 20), value.Int(1), value.Int(1))
	if e != api.OK || show(p) != show(times(ints(1, 1, 1), 20)) {
		t.Errorf("Band of the greatest degree = %s, %d", show(p), e)
	}
}

func TestP8_2Errors(t *testing.T) {
	zeros := make([]value.Num, 100)
	one, zero, below := value.Int(1), value.Int(0), value.Int(-1)
	for _, c := range []struct {
		p     []value.Num
		b, w2 value.Num
		band  api.Errno
	}{
		{power(41), zero, zero, api.ErrLong}, {power(41), one, one, api.ErrLong}, {nil, zero, one, api.ErrRange}, {zeros, one, below, api.ErrRange},
		{power(21), below, one, api.ErrRange}, {zeros, one, one, api.ErrZero}, {power(21), one, one, api.ErrLong}, {power(20), one, one, api.OK},
	} {
		p, e := filter.Band(c.p, c.b, c.w2)
		hasError(t, "Band", p, e, c.band)
	}
	for _, c := range []struct {
		p      []value.Num
		w      value.Num
		denorm api.Errno
	}{{power(41), zero, api.ErrLong}, {nil, zero, api.ErrRange}, {power(40), below, api.ErrRange}, {power(40), one, api.OK}} {
		p, e := filter.Denorm(c.p, c.w)
		hasError(t, "Denorm", p, e, c.denorm)
	}
	for want, p := range map[api.Errno][]value.Num{api.ErrLong: power(41), api.ErrZero: zeros, api.OK: append(power(40), zeros...)} {
		got, e := filter.High(p)
		hasError(t, "High", got, e, want)
	}
	p, e := filter.High(nil)
	hasError(t, "High of nothing", p, e, api.ErrZero)
}

// isHurwitz is whether all roots are to the left of the imaginary axis.
func isHurwitz(p []value.Num) bool {
	right, axis, e := poly.Routh(p)
	return right == 0 && axis == 0 && e == api.OK
}

func TestP8_8Families(t *testing.T) {
	for n := range api.MaxOrder + 1 {
		for name, f := range map[string]func(int) ([]value.Num, api.Errno){"Bessel": filter.Bessel, "Binomial": filter.Binomial} {
			if p, e := f(n); e != api.OK || poly.Deg(p) != n || !isHurwitz(p) {
				t.Errorf("%s of %d = %s, %d", name, n, show(p), e)
			}
		}
	}
	g := newNumbers()
	for range 100 {
		p, w := g.hurwitz(g.below(12)), g.above()
		low, _ := filter.Denorm(p, w)
		high, _ := filter.High(p)
		if !isHurwitz(p) || !isHurwitz(low) || !isHurwitz(high) {
			t.Errorf("%s: %s or %s is not Hurwitz", show(p), show(low), show(high))
		}
	}
}

func TestP8_8ThereAndBack(t *testing.T) {
	g := newNumbers()
	for range 200 {
		p, w := poly.Trim(g.nonzero(10)), g.above()
		low, _ := filter.Denorm(p, w)
		same, e := filter.Denorm(low, quotient(value.Int(1), w))
		isList(t, "Denorm twice", same, e, show(p), api.OK)
		if value.Sign(p[0]) == 0 {
			continue
		}
		high, _ := filter.High(p)
		same, e = filter.High(high)
		isList(t, "High twice", same, e, show(p), api.OK)
	}
}
