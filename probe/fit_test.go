package probe_test

import (
	"math/big"
	"slices"
	"testing"

	"pentode/api"
	"pentode/probe"
	"pentode/spread"
	"pentode/value"
)

// fitting is a task with an element, a range for it in which the net is regular, and a number in it.
type fitting struct {
	task api.PbTask
	elem int
	r    api.Range
	x    *big.Rat
}

// fitting also yields ranges that have a width of 0, or lie on both sides of 0.
func (g *numbers) fitting() fitting {
	for {
		f := fitting{task: g.task(3, 6, 2, 3, 2)}
		f.elem = g.below(len(f.task.Net.Elems))
		e := f.task.Net.Elems[f.elem]
		if !canVary(e) {
			continue
		}
		f.r = g.far(e)
		s := api.SpTask{Net: f.task.Net, Elems: []int{f.elem}, Ranges: []api.Range{f.r}}
		if is, _ := spread.Regular(s); !is {
			continue
		}
		f.x = fracOf(g.within(f.r))
		return f
	}
}

// values are those of Outs, if the element has the number x.
func (f fitting) values(x *big.Rat) []*big.Rat {
	_, y := solved(equations(f.task.Net, map[int]*big.Rat{f.elem: x}))
	var list []*big.Rat
	for _, out := range f.task.Outs {
		list = append(list, y[out])
	}
	return list
}

// possible are readings that are possible for values, often the greatest or the least ones.
func (g *numbers) possible(list []api.PbMeter, values []*big.Rat) []api.Val {
	var readings []api.Val
	for i, y := range values {
		part := big.NewRat(int64(g.below(9)-4), 4)
		readings = append(readings, textOf(plus(y, times(part, away(list[i], y)))))
	}
	return readings
}

// touches is whether one of Outs has a value at an end of the span of its reading.
func (f fitting) touches(readings []api.Val, x *big.Rat) bool {
	for i, y := range f.values(x) {
		if s := spanOf(f.task.Meters[i], frac(readings[i])); s.lo.Cmp(y) == 0 || s.hi.Cmp(y) == 0 {
			return true
		}
	}
	return false
}

// isFit is whether a range is all numbers that fit: they are a range, so it is enough that both ends fit, and what is behind
// them does not.
func (f fitting) isFit(readings []api.Val, fit pair) bool {
	r := pairOf(f.r)
	for _, x := range []*big.Rat{fit.lo, fit.hi, fit.mid()} {
		if !r.has(x) || !fits(f.task, f.elem, readings, x) {
			return false
		}
	}
	for _, end := range []struct{ x, last *big.Rat }{{fit.lo, r.lo}, {fit.hi, r.hi}} {
		if end.x.Cmp(end.last) == 0 {
			continue
		}
		behind := plus(end.x, times(big.NewRat(1, 1000000000), minus(end.last, end.x)))
		if !f.touches(readings, end.x) || fits(f.task, f.elem, readings, behind) {
			return false
		}
	}
	return true
}

func TestP10_6Fit(t *testing.T) {
	g := newNumbers()
	found, none, inner := 0, 0, 0
	for range 900 {
		f := g.fitting()
		readings := g.possible(f.task.Meters, f.values(f.x))
		if at := g.below(len(readings)); g.below(3) == 0 { // one that may not be possible
			readings[at] = textOf(plus(frac(readings[at]), over(fracOf(g.num()), whole(20))))
		}
		r, e := probe.Fit(f.task, f.elem, f.r, readings)
		switch {
		case e == api.OK && f.isFit(readings, pairOf(r)):
			found++
			if r.Lo != r.Hi && (r.Lo != f.r.Lo || r.Hi != f.r.Hi) {
				inner++
			}
		case e == api.ErrNone && r == api.Range{}:
			none++
			p := pairOf(f.r)
			for part := range 101 {
				x := plus(p.lo, times(big.NewRat(int64(part), 100), minus(p.hi, p.lo)))
				if fits(f.task, f.elem, readings, x) {
					t.Fatalf("%v: Fit of %v = %d, but %v fits", f, readings, e, x)
				}
			}
		default:
			t.Fatalf("%v: Fit of %v = %v, %d", f, readings, r, e)
		}
	}
	if found < 300 || none < 50 || inner < 100 {
		t.Errorf("%d fits, of which %d inside, %d without one", found, inner, none)
	}
}

// With exact meters the number itself is found, if anything depends on it.
func TestP10_6Exact(t *testing.T) {
	g := newNumbers()
	found, flat := 0, 0
	for range 400 {
		f := g.fitting()
		for i := range f.task.Meters {
			f.task.Meters[i] = meters("0 0 0")[0]
		}
		want := pair{f.x, f.x}
		ends, other := pairOf(f.r), f.values(f.x)
		if slices.EqualFunc(f.values(ends.lo), other, isSame) && slices.EqualFunc(f.values(ends.hi), other, isSame) {
			want = ends
			flat++
		} else {
			found++
		}
		r, e := probe.Fit(f.task, f.elem, f.r, g.possible(f.task.Meters, other))
		if r != want.text() || e != api.OK {
			t.Fatalf("%v: Fit = %v, %d, not %v", f, r, e, want.text())
		}
	}
	if found < 100 || flat < 50 {
		t.Errorf("%d numbers, %d ranges", found, flat)
	}
}

func isSame(x, y *big.Rat) bool { return x.Cmp(y) == 0 }

func TestP10_6Edges(t *testing.T) {
	for _, c := range []struct {
		meters   string
		elem     int
		r        string
		readings string
		want     string
	}{
		{"1/10 0 0 0 1/10 0", 1, "2 9", "4 -4", "2 27/13"},
		{"1/10 0 0 0 1/10 0", 1, "1 2", "4 -4", "79/41 2"},
		{"1/10 0 0 0 1/10 0", 1, "2 2", "4 -4", "2 2"},
		{"1/10 0 0 0 1/10 0", 1, "3 3", "4 -4", ""},
		{"1/10 0 0 0 1/10 0", 1, "79/41 27/13", "4 -4", "79/41 27/13"},
		{"1/10 0 0 0 1/10 0", 1, "27/13 9", "4 -4", "27/13 27/13"},
		{"1/10 0 0 0 1/10 0", 1, "1/9 79/41", "4 -4", "79/41 79/41"},
		{"1/10 0 0 0 1/10 0", 1, "28/13 9", "4 -4", ""},
		{"1/10 0 0 0 1/10 0", 0, "-100 100", "4 -4", "117/10 123/10"},
		{"1/10 0 0 0 1/10 0", 0, "-100 0", "-4 4", "-123/10 -117/10"},
		{"0 0 0 0 0 0", 1, "1 9", "4 -4", "2 2"},
		{"0 0 0 0 0 0", 1, "1 9", "4 -3", ""},
		{"0 0 0 0 0 0", 1, "1 9", "3 -3", "3 3"},
		{"0 0 2 0 0 2", 1, "1 11", "3 -3", "2 5"},                  // 2 to 4, and -4 to -2
		{"0 0 2 0 0 2", 1, "1 11", "5 -1", ""},                     // 4 to 6, and -2 to 0
		{"0 0 2 0 0 2", 1, "1 11", "5 -3", "2 2"},                  // 4 to 6, and -4 to -2
		{"1000 0 0 0 0 1000", 1, "1/7 10000", "4 -4", "1/7 10000"}, // everything
		{"1000 0 0 1/1000000 0 0", 1, "1/7 10000", "4 -12", ""},    // one of both is never so
		{"0 0 0 1000 0 0", 2, "1/9 100", "12 -4", ""},              // nor is this
		{"0 0 0 1000 0 0", 2, "1/9 100", "200/17 -4", "100 100"},   // but this
		{"0 0 0 1000 0 0", 2, "1/1000 100", "4/667 -4", "1/1000 1/1000"},
	} {
		k := divider(t)
		k.Meters = meters(c.meters)
		want, wantE := api.Range{}, api.ErrNone
		if c.want != "" {
			want, wantE = ranges(c.want)[0], api.OK
		}
		if r, e := probe.Fit(k, c.elem, ranges(c.r)[0], words(c.readings)); r != want || e != wantE {
			t.Errorf("Fit of %v = %v, %d", c, r, e)
		}
	}
}

// What does not depend on the element fits with all of its numbers, or with none.
func TestP10_6Flat(t *testing.T) {
	k := divider(t)
	k.Outs = []int{0, 1} // the node of the source, and that in the middle
	k.Meters = meters("1/10 0 0 1/10 0 0")
	for _, readings := range []string{"12 4", "121/10 4", "119/10 4"} {
		if r, e := probe.Fit(k, 1, ranges("1 9")[0], words(readings)); r != ranges("79/41 27/13")[0] || e != api.OK {
			t.Errorf("Fit of %s = %v, %d", readings, r, e)
		}
	}
	if r, e := probe.Fit(k, 1, ranges("1 9")[0], words("61/5 4")); r != (api.Range{}) || e != api.ErrNone {
		t.Errorf("Fit = %v, %d", r, e)
	}
	k.Outs, k.Meters = k.Outs[:1], k.Meters[:1]
	if r, e := probe.Fit(k, 1, ranges("1 9")[0], words("12")); r != ranges("1 9")[0] || e != api.OK {
		t.Errorf("Fit = %v, %d", r, e)
	}
}

// The element need not be a parameter, and the others are as they are in the net, whatever their ranges are.
func TestP10_6Nets(t *testing.T) {
	k := divider(t)
	k.Ranges = ranges("100 200 5 6")
	if r, e := probe.Fit(k, 1, ranges("1 9")[0], words("4 -4")); r != ranges("79/41 27/13")[0] || e != api.OK {
		t.Errorf("Fit = %v, %d", r, e)
	}
	k.Elems, k.Ranges = nil, nil
	if r, e := probe.Fit(k, 1, ranges("1 9")[0], words("4 -4")); r != ranges("79/41 27/13")[0] || e != api.OK {
		t.Errorf("Fit = %v, %d", r, e)
	}
	// A task that is not regular has fits: 1 + g is 1/2 where the voltage is 2.
	k = balance(t, "-2 0", "-1 -1")
	if r, e := probe.Fit(k, 1, ranges("-3/4 7")[0], words("2")); r != ranges("-1/2 -1/2")[0] || e != api.OK {
		t.Errorf("Fit = %v, %d", r, e)
	}
	if r, e := probe.Fit(k, 1, ranges("-7 -9/8")[0], words("-2")); r != ranges("-3/2 -3/2")[0] || e != api.OK {
		t.Errorf("Fit = %v, %d", r, e)
	}
	for _, r := range []string{"-2 0", "-1 0", "-2 -1", "-1 -1"} {
		if fit, e := probe.Fit(k, 1, ranges(r)[0], words("2")); fit != (api.Range{}) || e != api.ErrSingular {
			t.Errorf("Fit of %s = %v, %d", r, fit, e)
		}
	}
}

func TestP10_6Errors(t *testing.T) {
	for i, c := range []struct {
		elem     int
		r        string
		readings string
		want     api.Errno
	}{
		{-1, "x x", "x", api.ErrRange},
		{14, "1 2", "1 1 1", api.ErrRange},
		{1, "1 2", "1 1 1", api.ErrRange},
		{2, "1 2", "1 1 1", api.ErrRange},
		{10, "1 2", "1 1 1", api.ErrRange},
		{9, "0 2", "1 1 1", api.ErrRange},
		{9, "1 2", "1 1 1", api.ErrSingular},
		{0, "0 2", "1", api.ErrRange},
		{0, "2 1", "1", api.ErrRange},
		{3, "2/4 x", "1", api.ErrForm},
		{3, "1 " + string(digits(1001)), "1", api.ErrLong},
		{3, "1 " + string(digits(201)), "1", api.ErrLong},
		{3, "1 2", "1 1", api.ErrArg},
		{3, "1 2", "x x x x", api.ErrArg},
		{3, "1 2", "1 x " + string(digits(1001)), api.ErrForm},
		{3, "1 2", "1 " + string(digits(1001)) + " x", api.ErrLong},
	} {
		k := every(t)
		if r, e := probe.Fit(k, c.elem, ranges(c.r)[0], words(c.readings)); r != (api.Range{}) || e != c.want {
			t.Errorf("%d: Fit = %v, %d, not %d", i, r, e, c.want)
		}
	}
}

// Ends of the range, readings and Vals of the net may be long, and what fits is longer.
func TestP10_6Long(t *testing.T) {
	g := newNumbers()
	k := g.long(t)
	for i := range 3 {
		k.Net.Elems[2+i].Val = value.Text(g.fraction(1000))
	}
	lo, hi := g.fraction(200), g.fraction(200)
	f := fitting{task: k, elem: 1, r: value.SpanText(value.SpanJoin(value.Point(lo), value.Point(hi)))}
	f.task.Meters = []api.PbMeter{{Abs: "1/" + g.digitsOf(1000), Rel: "0", Step: "0"}, {Abs: "0", Rel: "0", Step: "0"}}
	middle := f.values(pairOf(f.r).mid())[0]
	bits := new(big.Int).Lsh(big.NewInt(1), 3000)
	near := new(big.Rat).SetFrac(new(big.Int).Quo(new(big.Int).Mul(middle.Num(), bits), middle.Denom()), bits)
	readings := []api.Val{textOf(near), "1"}
	r, e := probe.Fit(f.task, 1, f.r, readings)
	if e != api.OK || !f.isFit(readings, pairOf(r)) || len(r.Lo) < 2*api.MaxDigits {
		t.Errorf("Fit = %.60v, %d", r, e)
	}
}
