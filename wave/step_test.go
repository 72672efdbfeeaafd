package wave_test

import (
	"fmt"
	"strings"
	"testing"

	"pentode/api"
	"pentode/points"
	"pentode/value"
	"pentode/wave"
)

// valley is a line of a model with the slopes -1, 1 and 3, and breaks at 0 and 2.
const valley = "model k curve 1 -1 | 0 | 1 1 | 2 | -3 3; "

// Each kind of elements, in a step of the length 1/2. The unknowns are two nodes, and currents.
func TestP6_3Kinds(t *testing.T) {
	for _, c := range []struct{ lines, x, y, residual, power string }{
		{"r x 1 2 4", "9 9", "5 3", "1/2 -1/2", "1"},
		{"c x 1 2 4", "9 8", "5 3", "8 -8", "16"},
		{"c x 2 1 4", "9 8", "5 3", "8 -8", "16"},
		{"c x 1 0 4", "9 8", "5 3", "-32 0", "-160"},
		{"c x 0 2 4", "9 8", "5 3", "0 -40", "-120"},
		{"c x 2 2 4", "9 8", "5 3", "0 0", "0"},
		{"q x 1 2 k", "-1 1", "3 0", "6 -6", "18"},
		{"q x 1 1 k", "-1 1", "3 0", "0 0", "0"},
		{"d x 1 2 k", "-1 1", "3 0", "6 -6", "18"},
		{"l x 1 2 4", "9 9 5", "5 3 7", "7 -7 -14", "14"},
		{"l x 1 2 4", "9 9 7", "5 3 5", "5 -5 18", "10"},
		{"v x 1 2 4", "9 9 9", "5 3 7", "7 -7 -2", "14"},
		{"i x 1 2 4", "9 9", "5 3", "4 -4", "8"},
		{"e x 1 0 2 0 4", "9 9 9", "5 3 7", "7 0 -7", "35"},
		{"g x 1 0 2 0 4", "9 9", "5 3", "12 0", "60"},
		{"v x 1 0 5; f y 2 1 x 4", "9 9 9", "5 3 7", "-21 28 0", "35 -56"},
		{"h x 1 0 x 4", "9 9 9", "5 3 7", "7 0 -23", "35"},
		{"m x 1 2 0 m", "9 9", "5 3", "4 0", "20"}, // with the gate at 3
		{"s x 1 2 on 4", "9 9", "5 3", "1/2 -1/2", "1"},
		{"s x 1 2 off 4", "9 9", "5 3", "0 0", "0"},
	} {
		// The line of the switch names the nodes in order; its element does nothing.
		n := read(t, valley+"model m square 2 1; s z 1 2 off 1; "+c.lines)
		x, y, h := nums(t, c.x), nums(t, c.y), num(t, "1/2")
		if r, e := wave.Residual(n, x, y, h); show(r) != c.residual || e != api.OK {
			t.Errorf("%s: Residual = %s, %d", c.lines, show(r), e)
		}
		if p, e := wave.Power(n, x, y, h); show(p) != "0 "+c.power || e != api.OK {
			t.Errorf("%s: Power = %s, %d", c.lines, show(p), e)
		}
	}
}

func TestP6_3Definitions(t *testing.T) {
	g := newNumbers()
	for range 400 {
		n := g.small(g.below(4), g.below(9), 4)
		x, y, h := g.nums(size(n)), g.nums(size(n)), g.above()
		if r, e := wave.Residual(n, x, y, h); show(r) != show(residual(n, x, y, h)) || e != api.OK {
			t.Fatalf("%v: Residual from %s to %s = %s, %d, not %s", n, show(x), show(y), show(r), e, show(residual(n, x, y, h)))
		}
		if p, e := wave.Power(n, x, y, h); show(p) != show(powers(n, x, y, h)) || e != api.OK {
			t.Fatalf("%v: Power from %s to %s = %s, %d, not %s", n, show(x), show(y), show(p), e, show(powers(n, x, y, h)))
		}
	}
}

// Without what stores charge a step has the residual of its end.
func TestP6_3WithoutStores(t *testing.T) {
	g := newNumbers()
	for range 100 {
		n := g.net(3, 8, 4, integrating...)
		y := g.nums(3)
		want, _ := points.Residual(n, y)
		if r, e := wave.Residual(n, g.nums(3), y, g.above()); show(r) != show(want) || e != api.OK {
			t.Fatalf("%v: Residual at %s = %s, %d", n, show(y), show(r), e)
		}
	}
}

func TestP6_8Balance(t *testing.T) {
	g := newNumbers()
	for range 300 {
		n := g.small(g.below(5), g.below(12), 4)
		x, y, h := g.nums(size(n)), g.nums(size(n)), g.above()
		r, _ := wave.Residual(n, x, y, h)
		p, _ := wave.Power(n, x, y, h)
		var all, given value.Num
		for _, one := range p {
			all = plus(all, one)
		}
		for k := range n.Nodes {
			given = plus(given, times(y[k], r[k]))
		}
		if len(p) != len(n.Elems) || value.Cmp(all, given) != 0 {
			t.Fatalf("%v: the sum of the powers is %s, not %s", n, value.Text(all), value.Text(given))
		}
	}
}

// What may be wrong with the arguments of Residual, Power and Step, in the order of the promises.
func TestP6_3P6_4Errors(t *testing.T) {
	good, invalid := decay(t), api.Net{Nodes: 1, Elems: []api.Elem{{Kind: api.ElR, A: 2, Val: "1"}}}
	for i, c := range []struct {
		n       api.Net
		x, y, h string
		e       api.Errno
	}{
		{good, "1", "1", "1", api.OK},
		{invalid, "", "", "0", api.ErrRange},
		{api.Net{Nodes: -1}, "1 1", "1", "1", api.ErrRange},
		{api.Net{Nodes: 13}, "1", "1", "1", api.ErrLong},
		{good, "", "1", "1", api.ErrArg},
		{good, "1 1", "1", "0", api.ErrArg},
		{good, "1", "", "-1", api.ErrArg},
		{good, "1", "1 1", "1", api.ErrArg},
		{good, "1", "1", "0", api.ErrRange},
		{good, "1", "1", "-1/3", api.ErrRange},
		{api.Net{}, "", "", "1", api.OK},
		{api.Net{}, "1", "", "1", api.ErrArg},
	} {
		x, y, h := nums(t, c.x), nums(t, c.y), num(t, api.Val(c.h))
		if r, e := wave.Residual(c.n, x, y, h); e != c.e || e != api.OK && r != nil {
			t.Errorf("%d: Residual = %s, %d", i, show(r), e)
		}
		if p, e := wave.Power(c.n, x, y, h); e != c.e || e != api.OK && p != nil {
			t.Errorf("%d: Power = %s, %d", i, show(p), e)
		}
		if c.x != c.y {
			continue
		}
		if y, r, e := wave.Step(c.n, x, h, value.Int(9), 20); e != c.e || e != api.OK && (y != nil || r != nil) {
			t.Errorf("%d: Step = %s, %s, %d", i, show(y), show(r), e)
		}
	}
}

func TestP6_4Errors(t *testing.T) {
	for _, c := range []struct {
		x, h, tol string
		bits      int
		e         api.Errno
	}{
		{"1", "1", "0", 4, api.OK},
		{"1", "1", "0", 200, api.OK},
		{"", "0", "-1", 3, api.ErrArg},
		{"1", "0", "0", 20, api.ErrRange},
		{"1", "1", "-1/1000", 20, api.ErrRange},
		{"1", "1", "0", 3, api.ErrRange},
		{"1", "1", "0", 201, api.ErrRange},
		{"1", "1", "0", -1 << 63, api.ErrRange},
	} {
		y, r, e := wave.Step(decay(t), nums(t, c.x), num(t, api.Val(c.h)), num(t, api.Val(c.tol)), c.bits)
		want := ""
		if c.e == api.OK {
			want = "1/2"
		}
		if show(y) != want || e != c.e || e != api.OK && r != nil {
			t.Errorf("%v: Step = %s, %s, %d", c, show(y), show(r), e)
		}
	}
}

// A step is accepted if no part of its residual is farther from 0 than the tolerance; so the first one may end where it begins.
func TestP6_4Tolerance(t *testing.T) {
	for _, c := range []struct {
		from, tol api.Val
		bits      int
		y, r      string
		e         api.Errno
	}{
		{"1", "1", 20, "1", "1", api.OK},
		{"-1", "1", 20, "-1", "-1", api.OK},
		{"1", "999/1000", 20, "1/2", "0", api.OK},
		{"-1", "999/1000", 20, "-1/2", "0", api.OK},
		{"1/3", "1/3", 4, "1/3", "1/3", api.OK},        // is not rounded
		{"1/3", "1/48", 4, "5/32", "-1/48", api.OK},    // 1/6 is
		{"-1/3", "1/96", 4, "-11/64", "-1/96", api.OK}, // down, too
		{"1/3", "1/49", 4, "", "", wave.ErrStep},
		{"-1/3", "1/97", 4, "", "", wave.ErrStep},
		{"1/3", "1/3072", 10, "341/2048", "-1/3072", api.OK},
		{"1/3", "1/3073", 10, "", "", wave.ErrStep},
		{"1/3", "0", 200, "", "", wave.ErrStep},
	} {
		y, r, e := wave.Step(decay(t), nums(t, string(c.from)), value.Int(1), num(t, c.tol), c.bits)
		if show(y) != c.y || show(r) != c.r || e != c.e {
			t.Errorf("%v: Step = %s, %s, %d", c, show(y), show(r), e)
		}
	}
}

// At a break of a charge its slope is the middle of those of both pieces, and elsewhere that of the piece. Each of these steps
// is accepted after one change.
func TestP6_4Breaks(t *testing.T) {
	for _, c := range []struct{ from, current, h, tol, y, r string }{
		{"0", "-8", "1", "4", "-4", "4"},  // the slope is 0, and 2 for the resistor
		{"1", "8", "1", "2", "3", "2"},    // 1 and 2
		{"2", "8", "1", "1", "3", "1"},    // 2 and 2
		{"2", "10", "1/2", "2", "3", "2"}, // 4 and 2
		{"3", "16", "1", "0", "5", "0"},   // 3 and 2
	} {
		for _, store := range []string{
			valley + "q q1 1 0 k",
			"model k curve 3 3 | -2 | -1 1 | 0 | -1 -1; q q1 0 1 k", // the negative charge of the negative voltage
		} {
			n := read(t, store+"; r r1 1 0 1/2; i i1 0 1 "+c.current)
			y, r, e := wave.Step(n, nums(t, c.from), num(t, api.Val(c.h)), num(t, api.Val(c.tol)), 40)
			if show(y) != c.y || show(r) != c.r || e != api.OK {
				t.Errorf("%v, %s: Step = %s, %s, %d", c, store, show(y), show(r), e)
			}
		}
	}
}

// Ten changes are allowed, and not more: a charge whose slope gets less is found slowly.
func TestP6_4Changes(t *testing.T) {
	// The square of v, for v from 0 on, is 0: each change halves v.
	n := api.Net{Nodes: 1, Elems: []api.Elem{{Kind: api.ElD, A: 1}}, Models: []api.Model{{Kind: api.MdCurve, Pieces: [][]api.Val{{"0", "0", "1"}}}}}
	for _, c := range []struct {
		tol value.Num
		y   string
		e   api.Errno
	}{
		{value.Int(1), "1", api.OK},
		{power(-1), "1/2", api.OK},
		{power(-2), "1/2", api.OK},
		{power(-18), "1/512", api.OK},
		{power(-20), "1/1024", api.OK},
		{power(-21), "", wave.ErrStep},
		{value.Int(0), "", wave.ErrStep},
	} {
		if y, _, e := wave.Step(n, nums(t, "1"), value.Int(1), c.tol, 20); show(y) != c.y || e != c.e {
			t.Errorf("with %s: Step = %s, %d", value.Text(c.tol), show(y), e)
		}
	}
}

func TestP6_4Singular(t *testing.T) {
	for _, c := range []struct {
		lines, x string
		h        api.Val
		y        string
		e        api.Errno
	}{
		{"i i1 0 1 1", "0", "1", "", wave.ErrStep},                              // nothing takes the current
		{"g g1 1 0 1 0 -1; c c1 1 0 1; i i1 0 1 3", "0", "1", "", wave.ErrStep}, // the slopes -1 and 1
		{"g g1 1 0 1 0 -1; c c1 1 0 1; i i1 0 1 3", "0", "1/2", "3", api.OK},    // -1 and 2
		{"g g1 1 0 1 0 -1; c c1 1 0 1", "0", "1", "0", api.OK},                  // it is not asked
		{"l l1 1 0 2; r r1 1 0 1", "3 1", "2", "-1/2 1/2", api.OK},
		{"v v1 1 0 1; l l1 1 0 2; l l2 1 0 3", "1 0 0 0", "6", "1 -5 3 2", api.OK}, // which has no operating point
	} {
		y, r, e := wave.Step(read(t, c.lines), nums(t, c.x), num(t, c.h), value.Int(0), 20)
		if c.e != e || c.e == api.OK && (show(y) != c.y || strings.Trim(show(r), "0 ") != "") || c.e != api.OK && (y != nil || r != nil) {
			t.Errorf("%s: Step = %s, %s, %d", c.lines, show(y), show(r), e)
		}
	}
}

func TestP6_4Definitions(t *testing.T) {
	g := newNumbers()
	counts := map[string]int{}
	for range 600 {
		n := g.small(g.below(4), g.below(9), 4)
		x, h, bits := g.nums(size(n)), g.above(), 4+g.below(60)
		tol := nums(t, "0 1/1000 1/10 20")[g.below(4)]
		want, wantR, changes, ok := stepped(n, x, h, tol, bits)
		y, r, e := wave.Step(n, x, h, tol, bits)
		if show(y) != show(want) || show(r) != show(wantR) || ok != (e == api.OK) || !ok && e != wave.ErrStep {
			t.Fatalf("%v: Step from %s by %s, %s, %d = %s, %s, %d, not %s, %s", n, show(x), value.Text(h), value.Text(tol), bits, show(y), show(r), e, show(want), show(wantR))
		}
		counts[fmt.Sprint(ok, min(changes, 2))]++
	}
	for _, kind := range []string{"true 0", "true 1", "true 2", "false 0", "false 2"} {
		if counts[kind] < 10 {
			t.Errorf("only %d steps are %s: %v", counts[kind], kind, counts)
		}
	}
}
