package poly_test

import (
	"testing"

	"pentode/api"
	"pentode/poly"
	"pentode/value"
)

// complexRoot is a root, and how often it is one; with its counterpart, if it is not real.
type complexRoot struct {
	re, im value.Num
	often  int
}

// withRoots is the polynomial of roots, times a number.
func withRoots(scale value.Num, l []complexRoot) []value.Num {
	p := poly.Scale(ints(1), scale)
	for _, r := range l {
		f := withPair(r.re, r.im)
		if value.Sign(r.im) == 0 {
			f = withRoot(r.re)
		}
		p = poly.Mul(p, times(f, r.often))
	}
	return p
}

// counterparts are the roots, each with its own imaginary part.
func counterparts(l []complexRoot) []complexRoot {
	var all []complexRoot
	for _, r := range l {
		all = append(all, r)
		if value.Sign(r.im) != 0 {
			all = append(all, complexRoot{r.re, value.Neg(r.im), r.often})
		}
	}
	return all
}

// someRoots are up to four roots, often on the axes.
func someRoots(g *numbers) []complexRoot {
	var l []complexRoot
	for range g.below(5) {
		r := complexRoot{g.num(), value.Abs(g.num()), 1 + g.below(4)/2}
		if g.below(3) == 0 {
			r.re = value.Int(0)
		}
		l = append(l, r)
	}
	return l
}

func TestP2_6Routh(t *testing.T) {
	for _, c := range []struct {
		p           string
		right, axis int
	}{
		{"1 2 1", 0, 0}, {"-1 0 1", 1, 0}, {"1 0 1", 0, 2}, {"1 1 1 1 1", 2, 0}, {"5", 0, 0}, {"-5 0", 0, 0}, {"0 1 1", 0, 1}, {"0 -1 1", 1, 1}, {"4 0 0 0 1", 2, 0}, {"1 0 2 0 1", 0, 4}, {"0 0 0 1", 0, 3}, {"-6 11 -6 1", 3, 0}, {"6 11 6 1", 0, 0}, {"10 2 5 1", 0, 2}, {"-1 1 -1 1", 1, 2}, {"1 1", 0, 0}, {"-1 1", 1, 0}, {"1 -1", 1, 0}, {"1 0 0 1", 2, 0}, {"1 0 0 0 0 1", 2, 0}, {"-1 0 0 0 0 1", 3, 0}, {"1 0 0 0 -2 0 0 0 1", 2, 4},
	} {
		for _, scale := range []value.Num{value.Int(1), ratio(-3, 7)} {
			right, axis, e := poly.Routh(poly.Scale(list(t, c.p), scale))
			if e != api.OK || right != c.right || axis != c.axis {
				t.Errorf("Routh(%s) = %d, %d, %d, want %d, %d", c.p, right, axis, e, c.right, c.axis)
			}
		}
	}
	g := newNumbers()
	for range 300 {
		l := someRoots(g)
		p := withRoots(ratio(int64(2*g.below(2)-1), 3), l)
		wantRight, wantAxis := 0, 0
		for _, r := range counterparts(l) {
			switch value.Sign(r.re) {
			case 1:
				wantRight += r.often
			case 0:
				wantAxis += r.often
			}
		}
		if right, axis, e := poly.Routh(p); e != api.OK || right != wantRight || axis != wantAxis {
			t.Fatalf("Routh(%s) = %d, %d, %d, want %d, %d", text(p), right, axis, e, wantRight, wantAxis)
		}
	}
	if right, axis, e := poly.Routh(upTo(40)); e != api.OK || right != 40 || axis != 0 {
		t.Errorf("Routh of 1 to 40 = %d, %d, %d", right, axis, e)
	}
	if right, axis, e := poly.Routh(times(ints(1, 0, 1), 20)); e != api.OK || right != 0 || axis != 40 {
		t.Errorf("Routh of i, 20 times = %d, %d, %d", right, axis, e)
	}
}

func TestP2_7Rect(t *testing.T) {
	for _, c := range []struct {
		p, x, u, y, v string
		n             int
		e             api.Errno
	}{
		{"1 0 1", "-1", "1", "0", "2", 1, api.OK}, {"1 0 1", "1", "-1", "2", "0", 1, api.OK}, {"1 0 1", "-1", "1", "-2", "2", 2, api.OK}, {"1 0 1", "1", "2", "-2", "2", 0, api.OK}, {"0 0 1", "-1", "1", "-1", "1", 2, api.OK}, {"-1 0 0 1", "0", "2", "-1/2", "1/2", 1, api.OK}, {"-1 0 0 1", "-2", "2", "-2", "2", 3, api.OK}, {"7", "0", "1", "0", "1", 0, api.OK}, {"-7 0", "0", "1", "0", "1", 0, api.OK}, {"4 0 0 0 1", "0", "2", "0", "2", 1, api.OK}, {"4 0 0 0 1", "1/2", "7/5", "2/3", "9/7", 1, api.OK},
		// On a side, at a corner, on a side that is the real axis.
		{"1 0 1", "-1", "1", "1", "2", 0, poly.ErrEdge}, {"0 1", "0", "1", "-1", "1", 0, poly.ErrEdge}, {"0 1", "-1", "0", "-1", "1", 0, poly.ErrEdge}, {"0 1", "0", "1", "0", "1", 0, poly.ErrEdge}, {"0 1", "-1", "1", "0", "1", 0, poly.ErrEdge}, {"0 1", "-1", "1", "-1", "0", 0, poly.ErrEdge}, {"2 -2 1", "0", "1", "0", "1", 0, poly.ErrEdge}, {"2 -2 1", "1", "2", "-1/2", "3/2", 0, poly.ErrEdge}, {"-2 0 1", "1", "2", "0", "1", 0, poly.ErrEdge}, {"-2 0 1", "1", "7/5", "0", "1", 0, api.OK},
		{"1 0 1", "1", "1", "0", "2", 0, api.ErrRange}, {"1 0 1", "0", "1", "2", "2", 0, api.ErrRange}, {"0 1", "0", "0", "0", "2", 0, api.ErrRange}, {"0", "0", "1", "2", "2", 0, api.ErrZero},
	} {
		if n, e := poly.Rect(list(t, c.p), span(t, c.x, c.u), span(t, c.y, c.v)); n != c.n || e != c.e {
			t.Errorf("Rect(%s, %s to %s, %s to %s) = %d, %d, want %d, %d", c.p, c.x, c.u, c.y, c.v, n, e, c.n, c.e)
		}
	}
}

// expectedRect is what Rect has to return, by the roots.
func expectedRect(l []complexRoot, re, im value.Span) (int, api.Errno) {
	n := 0
	isEnd := func(a value.Span, x value.Num) bool { return value.Cmp(x, a.Lo) == 0 || value.Cmp(x, a.Hi) == 0 }
	if isEnd(re, re.Lo) && value.Cmp(re.Lo, re.Hi) == 0 || value.Cmp(im.Lo, im.Hi) == 0 {
		return 0, api.ErrRange
	}
	for _, r := range counterparts(l) {
		if !value.SpanHas(re, r.re) || !value.SpanHas(im, r.im) {
			continue
		}
		if isEnd(re, r.re) || isEnd(im, r.im) {
			return 0, poly.ErrEdge
		}
		n += r.often
	}
	return n, api.OK
}

func TestP2_7RectByRoots(t *testing.T) {
	g := newNumbers()
	edges := 0
	for range 600 {
		l := someRoots(g)
		p := withRoots(ratio(int64(2*g.below(2)-1), 3), l)
		re, im := value.Span{Lo: g.num(), Hi: g.num()}, value.Span{Lo: g.num(), Hi: g.num()}
		want, wantE := expectedRect(l, re, im)
		if n, e := poly.Rect(p, re, im); n != want || e != wantE {
			t.Fatalf("Rect(%s, %s, %s) = %d, %d, want %d, %d", text(p), spanText(re), spanText(im), n, e, want, wantE)
		}
		if wantE == poly.ErrEdge {
			edges++
		}
	}
	if edges < 50 {
		t.Errorf("%d rectangles with roots on edges", edges)
	}
}

func TestP2_7RectBesideRoots(t *testing.T) {
	// Edges that are so near to a root, or between roots so near to each other, that they are halved very often.
	for _, n := range []int{-60, -190, -201, -350} {
		near := twoTo(n)
		l := []complexRoot{{value.Int(1), value.Int(0), 2}, {value.Add(value.Int(1), value.Mul(near, value.Int(2))), value.Int(0), 1}, {value.Int(0), value.Int(1), 1}, {value.Int(3), near, 1}}
		p := withRoots(value.Int(5), l)
		for _, re := range []value.Span{{Lo: value.Add(value.Int(1), near), Hi: value.Int(4)}, {Lo: value.Sub(value.Int(1), near), Hi: value.Int(4)}, {Lo: value.Int(1), Hi: value.Int(4)}, {Lo: near, Hi: value.Int(4)}, {Lo: value.Int(0), Hi: value.Int(2)}, {Lo: value.Int(-2), Hi: value.Sub(value.Int(3), near)}} {
			for _, im := range []value.Span{{Lo: value.Neg(near), Hi: value.Int(2)}, {Lo: value.Mul(near, ratio(-1, 3)), Hi: value.Int(1)}, {Lo: value.Mul(near, ratio(1, 3)), Hi: value.Sub(value.Int(1), near)}, {Lo: value.Int(-2), Hi: value.Int(2)}} {
				want, wantE := expectedRect(l, re, im)
				if n, e := poly.Rect(p, re, im); n != want || e != wantE {
					t.Errorf("Rect(%s, %s, %s) = %d, %d, want %d, %d", text(p), spanText(re), spanText(im), n, e, want, wantE)
				}
			}
		}
	}
}

func TestP2_7RectOfTheGreatestDegree(t *testing.T) {
	for _, c := range []struct {
		p    []value.Num
		re   value.Span
		n    int
		e    api.Errno
		tall value.Num
	}{
		{chebyshev(40), span(t, "0", "1"), 20, api.OK, ratio(1, 3)},
		{upTo(40), span(t, "1/2", "61/2"), 30, api.OK, value.Int(100)},
		{upTo(40), span(t, "1", "61/2"), 0, poly.ErrEdge, ratio(1, 100)},
		{times(ints(1, 0, 1), 20), span(t, "-1", "1"), 40, api.OK, ratio(3, 2)},
		{poly.Sub(power(40), ints(1)), span(t, "-2", "0"), 0, poly.ErrEdge, value.Int(2)},
		{poly.Sub(power(40), ints(1)), span(t, "-2", "1/1000000"), 21, api.OK, value.Int(2)},
	} {
		if n, e := poly.Rect(c.p, c.re, value.Span{Lo: value.Neg(c.tall), Hi: c.tall}); n != c.n || e != c.e {
			t.Errorf("Rect(%s, %s) = %d, %d, want %d, %d", text(c.p), spanText(c.re), n, e, c.n, c.e)
		}
	}
}

func TestP2_11Counts(t *testing.T) {
	g := newNumbers()
	for range 100 {
		p, q := g.nonzero(6), g.nonzero(6)
		both := poly.Mul(p, q)
		rightP, axisP, _ := poly.Routh(p)
		rightQ, axisQ, _ := poly.Routh(q)
		if right, axis, e := poly.Routh(both); e != api.OK || right != rightP+rightQ || axis != axisP+axisQ {
			t.Fatalf("Routh of %s times %s = %d, %d, %d", text(p), text(q), right, axis, e)
		}
		re, im := value.Span{Lo: g.num(), Hi: g.num()}, value.Span{Lo: g.num(), Hi: g.num()}
		inP, eP := poly.Rect(p, re, im)
		inQ, eQ := poly.Rect(q, re, im)
		if n, e := poly.Rect(both, re, im); (e == api.OK) != (eP == api.OK && eQ == api.OK) || e == api.OK && n != inP+inQ {
			t.Fatalf("Rect of %s times %s, %s, %s = %d, %d", text(p), text(q), spanText(re), spanText(im), n, e)
		}
		bound, _ := poly.Bound(p)
		all := value.Span{Lo: value.Neg(bound), Hi: bound}
		if n, e := poly.Rect(p, all, all); e != api.OK || n != poly.Deg(p) {
			t.Fatalf("Rect(%s), up to its bound = %d, %d", text(p), n, e)
		}
	}
}

func TestP2_11RealRoots(t *testing.T) {
	g := newNumbers()
	for range 100 {
		p := product(withRoot(g.num()), withRoot(g.num()), withRoot(g.num()), ints(-2, 0, 1), withPair(g.num(), ratio(1, 3)))
		if common, _ := poly.Gcd(p, poly.Deriv(p)); poly.Deg(common) > 0 {
			continue
		}
		lo, hi := value.Add(g.num(), ratio(1, 1000)), value.Add(g.num(), ratio(1, 1001))
		if value.Cmp(lo, hi) > 0 {
			lo, hi = hi, lo
		}
		want, _ := poly.Count(p, lo, hi)
		if n, e := poly.Rect(p, value.Span{Lo: lo, Hi: hi}, value.Span{Lo: ratio(-1, 4), Hi: ratio(1, 5)}); n != want || e != api.OK {
			t.Fatalf("Rect(%s, %s to %s) = %d, %d, but Count %d", text(p), value.Text(lo), value.Text(hi), n, e, want)
		}
	}
}

// mirrored has the signs of the odd coefficients changed.
func mirrored(p []value.Num) []value.Num {
	var q []value.Num
	for i, c := range p {
		if i%2 == 1 {
			c = value.Neg(c)
		}
		q = append(q, c)
	}
	return q
}

func TestP2_12Hurwitz(t *testing.T) {
	g := newNumbers()
	hurwitz := 0
	for i := range 300 {
		p := poly.Trim(g.nonzero(8))
		if i%3 == 0 {
			p = withRoots(ratio(-2, 3), []complexRoot{{value.Int(int64(-1 - g.below(3))), value.Int(int64(g.below(3))), 1 + g.below(2)}, {ratio(-1, int64(1+g.below(7))), g.num(), 1}})
		}
		right, axis, _ := poly.Routh(p)
		left, sameAxis, e := poly.Routh(mirrored(p))
		if e != api.OK || axis != sameAxis || left+right+axis != poly.Deg(p) {
			t.Fatalf("%s: to the left %d, to the right %d, on the axis %d, and %d", text(p), left, right, axis, sameAxis)
		}
		if right+axis > 0 || len(p) < 2 {
			continue
		}
		hurwitz++
		for _, c := range p {
			if value.Sign(c) != value.Sign(p[0]) || value.Sign(c) == 0 {
				t.Fatalf("Routh(%s) = 0, 0", text(p))
			}
		}
	}
	if hurwitz < 100 {
		t.Errorf("%d polynomials are Hurwitz", hurwitz)
	}
}
