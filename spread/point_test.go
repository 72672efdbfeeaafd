package spread_test

import (
	"math"
	"slices"
	"strconv"
	"testing"

	"pentode/api"
	"pentode/spread"
	"pentode/value"
)

func TestP7_2At(t *testing.T) {
	g := newNumbers()
	found, singular := 0, 0
	for range 1500 {
		k := g.task(g.below(6), g.below(9), g.below(7))
		x := g.anywhere(k)
		want := at(k, fracs(x))
		v, e := spread.At(k, x)
		if want == nil {
			singular++
			check(t, "At without a value", v, e, "", api.ErrSingular)
			continue
		}
		found++
		if value.Text(v) != textOf(want) || e != api.OK {
			t.Fatalf("%v: At of %s = %s, %d, not %s", k, show(x), value.Text(v), e, textOf(want))
		}
	}
	if found < 500 || singular < 100 {
		t.Errorf("%d values, %d nets without one", found, singular)
	}
}

// Direct current does not pass a capacitor, passes an inductor, and passes a switch that is closed.
func TestP7_2Kinds(t *testing.T) {
	lines := "v v 1 0 12; l l 1 2 5; s s 2 3 on 1; r r 3 0 1; c c 3 0 7; s o 3 0 off 1"
	k := task(t, lines, 2, []int{2}, "1 2")
	for x, want := range map[api.Val]api.Val{"1": "6", "2": "4", "1/2": "8", "100": "12/101"} {
		v, e := spread.At(k, nums(t, string(x)))
		check(t, "At of a switch "+string(x), v, e, want, api.OK)
	}
	k.Out = 4 // the current of the inductor
	v, e := spread.At(k, nums(t, "1"))
	check(t, "At of a current", v, e, "6", api.OK)
}

func TestP7_2AtErrors(t *testing.T) {
	tooLong := value.Add(num(t, digits(1000)), num(t, "1/"+digits(1000)))
	minusLong := value.Neg(tooLong)
	one, none := value.Int(1), value.Int(0)
	v := divider(t)
	for i, c := range []struct {
		x []value.Num
		e api.Errno
	}{
		{nil, api.ErrArg},
		{[]value.Num{tooLong}, api.ErrArg},
		{[]value.Num{none, none, none}, api.ErrArg},
		{[]value.Num{none, tooLong}, api.ErrRange},
		{[]value.Num{tooLong, none}, api.ErrLong},
		{[]value.Num{minusLong, none}, api.ErrLong},
		{[]value.Num{one, tooLong}, api.ErrLong},
		{[]value.Num{one, none}, api.ErrRange},
		{[]value.Num{one, value.Int(-1)}, api.ErrRange},
		{[]value.Num{value.Int(-1), one}, api.ErrRange},
		{[]value.Num{value.Int(1000), num(t, "1/1000")}, api.OK},
		{[]value.Num{num(t, digits(1000)), num(t, "1/"+digits(1000))}, api.OK},
	} {
		list := []api.Errno{}
		_, e := spread.At(v, c.x)
		list = append(list, e)
		a, e := spread.Adjoint(v, c.x)
		list = append(list, e)
		s, e := spread.Slopes(v, c.x)
		list = append(list, e)
		if !slices.Equal(list, []api.Errno{c.e, c.e, c.e}) || (c.e == api.OK) != (a != nil) || (c.e == api.OK) != (s != nil) {
			t.Errorf("%d: errors %v, not %d", i, list, c.e)
		}
	}
	// Numbers of sources may be below 0, and so long as well; that there is no value comes last.
	b := balance(t, "0 1")
	for x, e := range map[api.Val]api.Errno{"-1": api.ErrSingular, "-2": api.OK, "0": api.OK, "-" + digits(1000): api.OK} {
		if _, got := spread.At(b, nums(t, string(x))); got != e {
			t.Errorf("At of %.20s: %d", x, got)
		}
	}
	if _, e := spread.At(b, []value.Num{minusLong}); e != api.ErrLong {
		t.Errorf("At of a long number: %d", e)
	}
}

func TestP7_2Vertex(t *testing.T) {
	g := newNumbers()
	for range 400 {
		k := g.task(g.below(4), g.below(9), g.below(7))
		box := boxOf(k)
		for mask := range 1 << len(box) {
			want := at(k, corner(box, mask))
			v, e := spread.Vertex(k, mask)
			if want == nil {
				check(t, "Vertex without a value", v, e, "", api.ErrSingular)
			} else {
				check(t, "Vertex", v, e, textOf(want), api.OK)
			}
		}
		for _, mask := range []int{-1, 1 << len(box), 1<<len(box) + 1, math.MaxInt, math.MinInt} {
			v, e := spread.Vertex(k, mask)
			check(t, "Vertex of "+strconv.Itoa(mask), v, e, "", api.ErrRange)
		}
	}
	b := balance(t, "-1 0")
	v, e := spread.Vertex(b, 0)
	check(t, "Vertex 0 of a task that is not regular", v, e, "", api.ErrSingular)
	v, e = spread.Vertex(b, 1)
	check(t, "Vertex 1 of it", v, e, "1", api.OK)
}

func TestP7_5AdjointAndSlopes(t *testing.T) {
	g := newNumbers()
	found, sloping := 0, 0
	for range 800 {
		k := g.task(g.below(4), g.below(9), g.below(7))
		x := g.anywhere(k)
		xs := fracs(x)
		a, e := spread.Adjoint(k, x)
		s, f := spread.Slopes(k, x)
		_, want := equations(k, xs).exchanged(k.Out).solved()
		if want == nil {
			if a != nil || s != nil || e != api.ErrSingular || f != api.ErrSingular {
				t.Fatalf("%v: Adjoint = %s, %d; Slopes = %s, %d", k, show(a), e, show(s), f)
			}
			continue
		}
		found++
		var texts, slopes string
		for _, y := range want {
			texts += " " + y.RatString()
		}
		for i := range xs {
			y := slope(k, xs, i)
			slopes += " " + y.RatString()
			if y.Sign() != 0 {
				sloping++
			}
		}
		if " "+show(a) != texts || e != api.OK {
			t.Fatalf("%v: Adjoint of %s = %s, %d, not%s", k, show(x), show(a), e, texts)
		}
		if len(xs) > 0 && " "+show(s) != slopes || len(s) != len(xs) || f != api.OK {
			t.Fatalf("%v: Slopes of %s = %s, %d, not%s", k, show(x), show(s), f, slopes)
		}
	}
	if found < 300 || sloping < 300 {
		t.Errorf("%d values, %d slopes", found, sloping)
	}
}

// Each kind of parameters, by its law.
func TestP7_5SlopesOfKinds(t *testing.T) {
	for _, c := range []struct {
		lines string
		out   int
		elem  int
		x     string
		want  string
	}{
		{"v v 1 0 1; r r 1 0 1", 1, 1, "2", "1/4"}, // the current of the source is -1/2, and rises with r
		{"v v 1 0 1; s s 1 0 on 1", 1, 1, "2", "1/4"},
		{"v v 1 0 1; r r 1 0 4", 1, 0, "7", "-1/4"},
		{"i i 1 0 1; r r 1 0 4", 0, 0, "7", "-4"},
		{"v v 1 0 3; e e 2 0 1 0 1", 1, 1, "9", "3"},
		{"v v 1 0 3; g g 2 0 1 0 1; r r 2 0 2", 1, 1, "9", "-6"},
		{"v v 1 0 3; r q 1 0 1; f f 2 0 v 1; r r 2 0 2", 1, 2, "9", "6"},
		{"v v 1 0 3; r q 1 0 1; h h 2 0 v 1", 1, 2, "9", "-3"},
		{"i i 0 1 1; h h 1 0 h 1", 0, 1, "9", "1"}, // its own current is 1
	} {
		k := task(t, c.lines, c.out, []int{c.elem}, "1 2")
		if s, e := spread.Slopes(k, nums(t, c.x)); show(s) != c.want || e != api.OK {
			t.Errorf("%s: Slopes = %s, %d, not %s", c.lines, show(s), e, c.want)
		}
	}
}

func TestP7_5Variance(t *testing.T) {
	g := newNumbers()
	found, singular := 0, 0
	for range 500 {
		k := g.task(g.below(4), g.below(9), g.below(7))
		mid, variance, e := spread.Variance(k)
		x := []value.Num{}
		sum := whole(0)
		for _, p := range boxOf(k) {
			x = append(x, num(t, textOf(p.mid())))
		}
		want := at(k, fracs(x))
		if want == nil {
			singular++
			check(t, "Variance without a value", mid, e, "", api.ErrSingular)
			check(t, "Variance without a value", variance, e, "", api.ErrSingular)
			continue
		}
		for i, p := range boxOf(k) {
			reach := times(slope(k, fracs(x), i), p.width())
			sum = plus(sum, times(reach, reach))
		}
		if sum.Sign() > 0 {
			found++
		}
		check(t, "Variance: the middle", mid, e, textOf(want), api.OK)
		check(t, "Variance", variance, e, textOf(over(sum, whole(12))), api.OK)
	}
	if found < 100 || singular < 50 {
		t.Errorf("%d variances above 0, %d nets without a value", found, singular)
	}
	// There is no value in the middle, or in the middle alone.
	b := balance(t, "-2 0")
	mid, variance, e := spread.Variance(b)
	check(t, "Variance", mid, e, "", api.ErrSingular)
	check(t, "Variance", variance, e, "", api.ErrSingular)
	b = balance(t, "-1 1")
	mid, variance, e = spread.Variance(b)
	check(t, "Variance", mid, e, "1", api.OK)
	check(t, "Variance", variance, e, "1/3", api.OK)
}

// The square of a difference of values is the product of both slopes and of the square of the difference of the numbers.
func TestP7_10Slopes(t *testing.T) {
	g := newNumbers()
	found := 0
	for range 800 {
		k := g.task(g.below(4), g.below(9), 1+g.below(6))
		x := g.anywhere(k)
		for i := range x {
			y := slices.Clone(x)
			y[i] = g.anywhere(k)[i]
			atX, e := spread.At(k, x)
			atY, f := spread.At(k, y)
			if e != api.OK || f != api.OK {
				continue
			}
			slopesX, _ := spread.Slopes(k, x)
			slopesY, _ := spread.Slopes(k, y)
			rise, step := value.Sub(atX, atY), value.Sub(x[i], y[i])
			product := value.Mul(value.Mul(slopesX[i], slopesY[i]), value.Mul(step, step))
			if value.Cmp(product, value.Mul(rise, rise)) != 0 {
				t.Fatalf("%v: from %s to %s the value rises by %s", k, show(x), show(y), value.Text(rise))
			}
			if value.Sign(rise) != 0 {
				found++
			}
		}
	}
	if found < 300 {
		t.Errorf("%d differences", found)
	}
}

// The value is the sum of the adjoint solution times the right side.
func TestP7_10Adjoint(t *testing.T) {
	g := newNumbers()
	for range 800 {
		k := g.task(g.below(4), g.below(9), g.below(7))
		x := g.anywhere(k)
		a, e := spread.Adjoint(k, x)
		v, f := spread.At(k, x)
		if e != f {
			t.Fatalf("%v: Adjoint: %d, At: %d", k, e, f)
		}
		if e != api.OK {
			continue
		}
		sum := whole(0)
		for i, b := range equations(k, fracs(x)).b {
			sum = plus(sum, times(b, frac(value.Text(a[i]))))
		}
		check(t, "the sum", v, e, textOf(sum), api.OK)
	}
}
