package spread_test

import (
	"fmt"
	"math"
	"slices"
	"testing"

	"pentode/api"
	"pentode/spread"
	"pentode/value"
)

func TestP7_6Yield(t *testing.T) {
	g := newNumbers()
	between := 0
	for i := range 300 {
		k := g.regular(3, 7, 1+g.below(4))
		spec, cuts := g.spec(k), g.below(12)
		if i%20 == 0 {
			cuts = 50 + g.below(11)
		}
		want := yield(k, pairOf(spec), cuts)
		if y, e := spread.Yield(k, spec, cuts); y != want || e != api.OK {
			t.Fatalf("%v: Yield of %v with %d cuts = %v, %d, not %v", k, spec, cuts, y, e, want)
		}
		if want.Lo != "0" && want.Hi != "1" && want.Boxes > 2 {
			between++
		}
	}
	if between < 30 {
		t.Errorf("%d bounds within 0 and 1", between)
	}
}

// sum is two sources in series: the value is their sum.
func sum(t testing.TB, box string) api.SpTask {
	return task(t, "v v 1 0 1; v w 2 1 1; r r 2 0 1", 1, []int{0, 1}, box)
}

func TestP7_6Cuts(t *testing.T) {
	for _, c := range []struct {
		box, spec string
		cuts      int
		want      api.SpYield
	}{
		{"0 1 0 1", "0 1", 0, api.SpYield{Lo: "0", Hi: "1", Boxes: 1}},
		{"0 1 0 1", "0 1", 1, api.SpYield{Lo: "0", Hi: "1", Boxes: 2}},
		// The left half is cut first: its lower half is good.
		{"0 1 0 1", "0 1", 2, api.SpYield{Lo: "1/4", Hi: "1", Boxes: 3}},
		// The upper right quarter touches the range at one point: it is open.
		{"0 1 0 1", "0 1", 3, api.SpYield{Lo: "1/4", Hi: "1", Boxes: 4}},
		{"0 1 0 1", "0 99/100", 3, api.SpYield{Lo: "0", Hi: "3/4", Boxes: 4}},
		{"0 1 0 1", "0 2", 60, api.SpYield{Lo: "1", Hi: "1", Boxes: 1}},
		{"0 1 0 1", "2 3", 0, api.SpYield{Lo: "0", Hi: "1", Boxes: 1}},
		{"0 1 0 1", "-1 0", 0, api.SpYield{Lo: "0", Hi: "1", Boxes: 1}},
		{"0 1 0 1", "201/100 3", 60, api.SpYield{Lo: "0", Hi: "0", Boxes: 1}},
		{"0 1 0 1", "-1 -1/100", 60, api.SpYield{Lo: "0", Hi: "0", Boxes: 1}},
		// All that is open in the end touches the range from above.
		{"0 1 1 1", "1 3/2", 60, api.SpYield{Lo: "1/2", Hi: "576460752303423489/1152921504606846976", Boxes: 61}},
		{"0 1 1 1", "1 149/100", 1, api.SpYield{Lo: "0", Hi: "1/2", Boxes: 2}},
		// A range that is a single number has no part in the volume, and is not cut. Nothing is cut where no box is open.
		{"1 1 0 1", "5/4 3", 1, api.SpYield{Lo: "1/2", Hi: "1", Boxes: 2}},
		{"1 1 1 1", "2 2", 60, api.SpYield{Lo: "1", Hi: "1", Boxes: 1}},
		{"1 1 1 1", "3 4", 60, api.SpYield{Lo: "0", Hi: "0", Boxes: 1}},
		// Widths count by the widths in the task: so the second one is cut after the first one, though it is greater all the time.
		{"0 1 0 100", "0 50", 2, api.SpYield{Lo: "0", Hi: "1", Boxes: 3}},
		{"0 1 0 100", "0 51", 3, api.SpYield{Lo: "1/2", Hi: "1", Boxes: 4}},
	} {
		k := sum(t, c.box)
		if want := yield(k, pairOf(span(c.spec)), c.cuts); want != c.want {
			t.Errorf("the definition of %s, %s, %d cuts gives %v, not %v", c.box, c.spec, c.cuts, want, c.want)
		}
		if y, e := spread.Yield(k, span(c.spec), c.cuts); y != c.want || e != api.OK {
			t.Errorf("Yield of %s, %s, %d cuts = %v, %d, not %v", c.box, c.spec, c.cuts, y, e, c.want)
		}
	}
	k := task(t, "i i 0 1 3; r r 1 0 1", 0, nil, "")
	for spec, want := range map[string]api.SpYield{"3 3": {Lo: "1", Hi: "1", Boxes: 1}, "2 5/2": {Lo: "0", Hi: "0", Boxes: 1}} {
		if y, e := spread.Yield(k, span(spec), 60); y != want || e != api.OK {
			t.Errorf("Yield without parameters = %v, %d", y, e)
		}
	}
}

func TestP7_6Errors(t *testing.T) {
	for _, c := range []struct {
		k    api.SpTask
		cuts int
		e    api.Errno
	}{
		{divider(t), -1, api.ErrRange}, {divider(t), 61, api.ErrRange}, {divider(t), math.MinInt, api.ErrRange}, {divider(t), math.MaxInt, api.ErrRange},
		{divider(t), 0, api.OK}, {divider(t), 60, api.OK},
		{balance(t, "-2 0"), 0, api.ErrSingular}, {balance(t, "-1 0"), 60, api.ErrSingular}, {balance(t, "-2 0"), 61, api.ErrRange},
	} {
		if y, e := spread.Yield(c.k, span("1 2"), c.cuts); e != c.e || (e != api.OK) != (y == api.SpYield{}) {
			t.Errorf("Yield with %d cuts = %v, %d, not %d", c.cuts, y, e, c.e)
		}
	}
}

func TestP7_7Count(t *testing.T) {
	g := newNumbers()
	some := 0
	for range 800 {
		k := g.task(g.below(4), g.below(8), g.below(4))
		n := 1 + g.below(4)
		var spec api.Range
		if is, _ := spread.Regular(k); is {
			spec = g.spec(k)
		} else {
			spec = value.SpanText(value.SpanJoin(value.Point(g.num()), value.Point(g.num())))
		}
		in, all, e := spread.Count(k, spec, n)
		if wantIn, wantAll := count(k, pairOf(spec), n); in != wantIn || all != wantAll || e != api.OK {
			t.Fatalf("%v: Count of %v, %d = %d, %d, %d, not %d, %d", k, spec, n, in, all, e, wantIn, wantAll)
		}
		if in > 0 && in < all {
			some++
		}
	}
	if some < 60 {
		t.Errorf("%d grids that are in part in the range", some)
	}
}

func TestP7_7Edges(t *testing.T) {
	six := divider(t)
	six.Net.Elems = append(six.Net.Elems, slices.Repeat(six.Net.Elems[2:], 4)...)
	six.Elems, six.Ranges = []int{1, 2, 3, 4, 5, 6}, slices.Repeat(ranges("1 2"), 6)
	three := six
	three.Elems, three.Ranges = six.Elems[:3], six.Ranges[:3]
	one := divider(t)
	one.Elems, one.Ranges = []int{0}, ranges("0 4095")
	none := divider(t)
	none.Elems, none.Ranges = nil, nil
	for i, c := range []struct {
		k       api.SpTask
		spec    string
		n       int
		in, all int
		e       api.Errno
	}{
		{divider(t), "0 12", 64, 4096, 4096, api.OK},
		{divider(t), "0 12", 65, 0, 0, api.ErrLong},
		{three, "0 12", 16, 4096, 4096, api.OK},
		{three, "0 12", 17, 0, 0, api.ErrLong},
		{six, "0 12", 4, 4096, 4096, api.OK},
		{six, "0 12", 5, 0, 0, api.ErrLong},
		{one, "1 2", 4096, 4, 4096, api.OK}, // a third of 3, 4, 5 and 6
		{one, "1 2", 4097, 0, 0, api.ErrLong},
		{one, "1 2", 1, 0, 1, api.OK},
		{one, "1365/2 1365/2", 1, 1, 1, api.OK},
		{none, "4 4", math.MaxInt, 1, 1, api.OK},
		{none, "5 6", 7, 0, 1, api.OK},
		{none, "4 4", 0, 0, 0, api.ErrRange},
		{divider(t), "0 12", 0, 0, 0, api.ErrRange},
		{divider(t), "0 12", math.MinInt, 0, 0, api.ErrRange},
		{divider(t), "0 12", math.MaxInt, 0, 0, api.ErrLong},
		{six, "0 12", math.MaxInt, 0, 0, api.ErrLong},
		{six, "0 12", 1 << 32, 0, 0, api.ErrLong}, // the power 6 of it is 0 as an int
		// At -1 there is no value: at 0, 1/2 and 1 there is, and at -2, -3/2 and -1/2.
		{balance(t, "-2 1"), "-100 100", 7, 6, 7, api.OK},
		{balance(t, "-2 0"), "-100 100", 1, 0, 1, api.OK},
		{balance(t, "-1 -1"), "-100 100", 3, 0, 3, api.OK},
		{balance(t, "0 0"), "1 1", 3, 3, 3, api.OK},
	} {
		if in, all, e := spread.Count(c.k, span(c.spec), c.n); in != c.in || all != c.all || e != c.e {
			t.Errorf("%d: Count of %s, %d = %d, %d, %d", i, c.spec, c.n, in, all, e)
		}
	}
}

func TestP7_8Scale(t *testing.T) {
	g := newNumbers()
	between, none := 0, 0
	for range 500 {
		k := g.task(1+g.below(4), g.below(8), g.below(4))
		bits := g.below(5)
		var spec api.Range
		if is, _ := spread.Regular(k); is {
			spec = g.spec(k)
		} else if mid, _, e := spread.Variance(k); e == api.OK {
			spec = value.SpanText(value.Span{Lo: value.Sub(mid, g.above()), Hi: value.Add(mid, g.above())})
		} else {
			spec = span("-100 100")
		}
		r, e := spread.Scale(k, spec, bits)
		want := scale(k, pairOf(spec), bits)
		if want == nil {
			none++
			check(t, fmt.Sprintf("%v: Scale of %v", k, spec), r, e, "", api.ErrNone)
			continue
		}
		check(t, fmt.Sprintf("%v: Scale of %v", k, spec), r, e, textOf(want), api.OK)
		if want.Sign() > 0 && want.Cmp(whole(1)) < 0 {
			between++
		}
	}
	if between < 30 || none < 50 {
		t.Errorf("%d parts, %d without one", between, none)
	}
}

func TestP7_8Edges(t *testing.T) {
	for _, c := range []struct {
		k    api.SpTask
		spec string
		bits int
		want api.Val
		e    api.Errno
	}{
		{divider(t), "2 6", -1, "", api.ErrRange},
		{divider(t), "2 6", 21, "", api.ErrRange},
		{divider(t), "2 6", math.MinInt, "", api.ErrRange},
		{divider(t), "5 6", 21, "", api.ErrRange},
		{divider(t), "2 6", 0, "0", api.OK},
		{divider(t), "12/7 36/5", 0, "1", api.OK},
		{divider(t), "12/7 36/5", 20, "1", api.OK},
		{divider(t), "12/7 359/50", 1, "1/2", api.OK},
		{divider(t), "4 4", 20, "0", api.OK},
		{divider(t), "39/10 399/100", 20, "", api.ErrNone},
		// The sum is from 1 - r to 1 + r.
		{sum(t, "0 1 0 1"), "0 3/2", 20, "1/2", api.OK},
		{sum(t, "0 1 0 1"), "1/3 5", 3, "5/8", api.OK},
		{sum(t, "0 1 0 1"), "1/3 5", 20, "699050/1048576", api.OK},
		{sum(t, "0 1 0 1"), "0 2", 5, "1", api.OK},
		// What ends it here is that the task is not regular: from r = 1/2 on.
		{balance(t, "-2 2"), "-1000000 1000000", 20, "524287/1048576", api.OK},
		{balance(t, "-2 2"), "0 1000000000", 4, "7/16", api.OK},
		{balance(t, "-2 0"), "-1000 1000", 4, "", api.ErrNone},
		{balance(t, "-1 -1"), "-1000 1000", 0, "", api.ErrNone},
	} {
		r, e := spread.Scale(c.k, span(c.spec), c.bits)
		if c.want != "" {
			c.want = textOf(frac(c.want))
		}
		check(t, fmt.Sprintf("Scale of %s, %d bits", c.spec, c.bits), r, e, c.want, c.e)
	}
	k := task(t, "i i 0 1 3; r r 1 0 1", 0, nil, "")
	r, e := spread.Scale(k, span("3 3"), 3)
	check(t, "Scale without parameters", r, e, "1", api.OK)
	r, e = spread.Scale(k, span("2 5/2"), 3)
	check(t, "Scale without parameters", r, e, "", api.ErrNone)
}

// More cuts do not make bounds worse, and the bounds are those of the part of the box with values in the range.
func TestP7_11Yields(t *testing.T) {
	g := newNumbers()
	all, none, both := 0, 0, 0
	for range 150 {
		k := g.regular(3, 7, 1+g.below(4))
		spec := g.spec(k)
		lo, hi := whole(0), whole(1)
		for cuts := range 20 {
			y, e := spread.Yield(k, spec, cuts)
			if e != api.OK || frac(y.Lo).Cmp(lo) < 0 || frac(y.Hi).Cmp(hi) > 0 || frac(y.Lo).Cmp(frac(y.Hi)) > 0 {
				t.Fatalf("%v: Yield of %v with %d cuts = %v, %d", k, spec, cuts, y, e)
			}
			lo, hi = frac(y.Lo), frac(y.Hi)
		}
		s := pairOf(spec)
		for range 20 {
			x := g.inside(k)
			v, _ := spread.At(k, x)
			in := s.has(frac(value.Text(v)))
			if in && hi.Sign() == 0 || !in && lo.Cmp(whole(1)) == 0 {
				t.Fatalf("%v: %s at %s, but the bounds of %v are %s and %s", k, value.Text(v), show(x), spec, lo, hi)
			}
		}
		// The range behind this one, that does not touch it.
		beyond := api.Range{Lo: textOf(plus(s.hi, over(whole(1), whole(100)))), Hi: textOf(plus(s.hi, whole(100)))}
		y, _ := spread.Yield(k, beyond, 20)
		if plus(lo, frac(y.Lo)).Cmp(whole(1)) > 0 {
			t.Fatalf("%v: the yields of %v and %v are at least %s and %s", k, spec, beyond, lo, y.Lo)
		}
		switch {
		case lo.Cmp(whole(1)) == 0:
			all++
		case hi.Sign() == 0:
			none++
		case lo.Sign() > 0 && y.Lo != "0":
			both++
		}
	}
	if all < 5 || none < 5 || both < 5 {
		t.Errorf("%d yields 1, %d yields 0, %d times two yields above 0", all, none, both)
	}
}

// Yields that are known are between the bounds.
func TestP7_11Known(t *testing.T) {
	// The sum of two numbers from 0 to 1 is at most s for s s / 2 of the square, if s is at most 1.
	k := sum(t, "0 1 0 1")
	for _, s := range []string{"1/4", "1/2", "3/4", "1"} {
		y, e := spread.Yield(k, span("0 "+s), 60)
		part := over(times(frac(api.Val(s)), frac(api.Val(s))), whole(2))
		if e != api.OK || frac(y.Lo).Cmp(part) > 0 || frac(y.Hi).Cmp(part) < 0 || minus(frac(y.Hi), frac(y.Lo)).Cmp(frac("1/4")) > 0 {
			t.Errorf("Yield of 0 to %s = %v, %d, but it is %s", s, y, e, part)
		}
	}
	// The quotient r2 / (r1 + r2) for both from 1 to 2 is at most 1/2 for a half of the square.
	d := divider(t)
	d.Ranges = ranges("1 2 1 2")
	if y, e := spread.Yield(d, span("0 6"), 60); e != api.OK || frac(y.Lo).Cmp(frac("1/2")) > 0 || frac(y.Hi).Cmp(frac("1/2")) < 0 || y.Lo == "0" {
		t.Errorf("Yield = %v, %d", y, e)
	}
}

func TestP7_12Scaling(t *testing.T) {
	g := newNumbers()
	found := 0
	for range 300 {
		k := g.task(1+g.below(4), g.below(8), 1+g.below(4))
		mid, _, e := spread.Variance(k)
		if e != api.OK {
			continue
		}
		spec := value.SpanText(value.Span{Lo: value.Sub(mid, g.above()), Hi: value.Add(mid, g.above())})
		r, e := spread.Scale(k, spec, g.below(21))
		if e != api.OK {
			t.Fatalf("%v: Scale of %v: %d", k, spec, e)
		}
		if value.Sign(r) > 0 {
			found++
		}
		for i, p := range boxOf(k) {
			h := times(frac(value.Text(r)), over(p.width(), whole(2)))
			k.Ranges[i] = api.Range{Lo: textOf(minus(p.mid(), h)), Hi: textOf(plus(p.mid(), h))}
		}
		for range 12 {
			x := g.inside(k)
			v, e := spread.At(k, x)
			if e != api.OK || !pairOf(spec).has(frac(value.Text(v))) {
				t.Fatalf("%v: %s at %s, %d, but %s was scaled for %v", k, value.Text(v), show(x), e, value.Text(r), spec)
			}
		}
	}
	if found < 100 {
		t.Errorf("%d parts above 0", found)
	}
}
