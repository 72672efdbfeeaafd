package wave_test

import (
	"math"
	"slices"
	"testing"

	"pentode/api"
	"pentode/value"
	"pentode/wave"
)

// Which nets are integrating ones.
func TestP6_7Kinds(t *testing.T) {
	const models = "model k curve 0 1; model m square 1 0; "
	for _, c := range []struct {
		lines string
		e     api.Errno
	}{
		{"c c1 1 0 1", api.OK},
		{"c c1 0 1 1", api.OK},
		{"c c1 1 0 1; c c2 0 1 1", api.OK},
		{"c c1 1 0 1; c c2 0 0 1", api.OK},
		{"c c1 1 0 1; r r1 1 0 1; i i1 0 1 1; g g1 1 0 1 0 1; d d1 1 0 k; m m1 1 1 0 m; s s1 1 0 on 1; s s2 1 0 off 1", api.OK},
		{"r r1 1 0 1", wave.ErrKind},
		{"r r1 1 0 1; c c1 0 0 1", wave.ErrKind},
		{"c c1 1 0 1; c c2 1 1 1", wave.ErrKind},
		{"c c1 1 0 1; l l1 0 0 1", wave.ErrKind},
		{"c c1 1 0 1; v v1 0 0 1", wave.ErrKind},
		{"c c1 1 0 1; e e1 0 0 1 0 1", wave.ErrKind},
		{"c c1 1 0 1; q q1 1 0 k", wave.ErrKind},
		{"c c1 1 0 1; v v1 1 0 1; f f1 1 0 v1 1", wave.ErrKind},
		{"c c1 1 0 1; h h1 0 0 h1 1", wave.ErrKind},
	} {
		n := read(t, models+c.lines)
		l, e := wave.Enclose(n, ranges("0 0"), "1/100", 1, 20)
		if e != c.e || e == api.OK && len(l) != 1 {
			t.Errorf("%s: Enclose = %s, %d", c.lines, showBoxes(l), e)
		}
		if trap, e := wave.Trap(n, ranges("0 0")); e != c.e || e != api.OK && trap {
			t.Errorf("%s: Trap = %t, %d", c.lines, trap, e)
		}
	}
	for lines, want := range map[string]api.Errno{
		"c c1 1 0 1; c c2 2 0 1": api.OK, "c c1 1 0 1; r r1 2 0 1": wave.ErrKind, "c c1 1 0 1; c c2 2 0 1; c c3 1 2 1": wave.ErrKind,
	} {
		if _, e := wave.Trap(read(t, lines), ranges("0 0 0 0")); e != want {
			t.Errorf("%s: Trap = %d", lines, e)
		}
	}
}

// What may be wrong with the arguments of Enclose and Trap, in the order of the promises.
func TestP6_7Errors(t *testing.T) {
	long := string(digits(1001))
	other := read(t, "v v1 1 0 1; c c1 1 0 1")
	for i, c := range []struct {
		n           api.Net
		box         string
		h           api.Val
		steps, bits int
		e, trap     api.Errno
	}{
		{decay(t), "1 1", "1/8", 1, 4, api.OK, api.OK},
		{decay(t), "1 1", "1/8", 20, 200, api.OK, api.OK},
		{api.Net{Nodes: 21}, "x 1", "x", 0, 3, api.ErrRange, api.ErrRange},
		{api.Net{Nodes: 13}, "x 1", "x", 0, 3, api.ErrLong, api.ErrLong},
		{api.Net{Nodes: 1, Elems: []api.Elem{{Kind: 14}}}, "x 1", "x", 0, 3, api.ErrArg, api.ErrArg},
		{api.Net{Nodes: 1}, "x 1 x 1", "x", 0, 3, wave.ErrKind, wave.ErrKind},
		{other, "x 1", "x", 0, 3, wave.ErrKind, wave.ErrKind},
		{decay(t), "", "x", 0, 3, api.ErrArg, api.ErrArg},
		{decay(t), "x 1 x 1", "x", 0, 3, api.ErrArg, api.ErrArg},
		{decay(t), "x " + long, "x", 0, 3, api.ErrForm, api.ErrForm},
		{decay(t), long + " x", "x", 0, 3, api.ErrLong, api.ErrLong},
		{decay(t), "1 1/1", "x", 0, 3, api.ErrForm, api.ErrForm},
		{decay(t), "1 0", "x", 0, 3, api.ErrRange, api.ErrRange},
		{decay(t), "0 1", "x", 0, 3, api.ErrForm, api.OK},
		{decay(t), "0 1", api.Val(long), 0, 3, api.ErrLong, api.OK},
		{decay(t), "0 1", "0", 1, 4, api.ErrRange, api.OK},
		{decay(t), "0 1", "-1/8", 1, 4, api.ErrRange, api.OK},
		{decay(t), "0 1", "1/8", 0, 4, api.ErrRange, api.OK},
		{decay(t), "0 1", "1/8", 21, 4, api.ErrRange, api.OK},
		{decay(t), "0 1", "1/8", math.MinInt, 4, api.ErrRange, api.OK},
		{decay(t), "0 1", "1/8", 1, 3, api.ErrRange, api.OK},
		{decay(t), "0 1", "1/8", 1, 201, api.ErrRange, api.OK},
		{read(t, "c c1 1 0 1; c c2 2 0 1"), "1 0 0 x", "1", 1, 4, api.ErrForm, api.ErrForm},
		{read(t, "c c1 1 0 1; c c2 2 0 1"), "0 0 1 0", "1", 1, 4, api.ErrRange, api.ErrRange},
		{api.Net{}, "", "1", 3, 4, api.OK, api.OK},
		{api.Net{}, "0 0", "1", 3, 4, api.ErrArg, api.ErrArg},
	} {
		l, e := wave.Enclose(c.n, ranges(c.box), c.h, c.steps, c.bits)
		if e != c.e || e == api.OK && len(l) != c.steps || e != api.OK && l != nil {
			t.Errorf("%d: Enclose = %s, %d", i, showBoxes(l), e)
		}
		if trap, e := wave.Trap(c.n, ranges(c.box)); e != c.trap || e != api.OK && trap {
			t.Errorf("%d: Trap = %t, %d", i, trap, e)
		}
	}
}

func TestP6_7Definitions(t *testing.T) {
	g := newNumbers()
	codes := map[api.Errno]int{}
	for range 300 {
		n := g.flowing(1+g.below(3), g.below(8), 4)
		box, steps, bits := g.ranges(n.Nodes), 1+g.below(3), 4+g.below(40)
		h, _ := value.Ratio(int64(1+g.below(8)), int64(8+g.below(200)))
		want, wantE := enclosed(n, box, h, steps, bits)
		l, e := wave.Enclose(n, box, value.Text(h), steps, bits)
		if showBoxes(l) != showBoxes(want) || e != wantE {
			t.Fatalf("%v: Enclose from %s by %s, %d, %d = %s, %d, not %s, %d", n, showRanges(box), value.Text(h), steps, bits, showBoxes(l), e, showBoxes(want), wantE)
		}
		codes[e]++
	}
	if codes[api.OK] < 100 || codes[wave.ErrStep] < 30 {
		t.Errorf("the enclosures end with %v", codes)
	}
}

// growth is a net whose voltage rises as fast as it is high.
func growth(t testing.TB) api.Net {
	t.Helper()
	return read(t, "g g1 1 0 1 0 -1; c c1 1 0 1")
}

// Twenty boxes are tried, and not more.
func TestP6_7Tries(t *testing.T) {
	found := map[int]bool{}
	for k := range 260 {
		h := over(value.Int(int64(740+k)), value.Int(1000))
		_, tries, ok := boxAfter(growth(t), spansOf(ranges("1 1")), h, 30)
		_, e := wave.Enclose(growth(t), ranges("1 1"), value.Text(h), 1, 30)
		if ok != (e == api.OK) || !ok && e != wave.ErrStep {
			t.Errorf("Enclose by %s = %d, but %d boxes are tried", value.Text(h), e, tries)
		}
		if ok {
			found[tries] = true
		}
		if !ok {
			found[-1] = true
		}
	}
	if !found[5] || !found[20] || !found[-1] {
		t.Errorf("so many boxes are tried: %v", found)
	}
}

// rush is a net whose voltage rises with the speed 1 at a number, and with the speed 2 from 1 above it on. For a step by 1 from there
// the first box that is tried is left up to 2 above the number, and the second one is not. With the sign -1 it falls likewise.
func rush(at value.Num, sign int64) api.Net {
	s := value.Int(sign)
	first, second := plus(at, times(s, over(value.Int(1), value.Int(2)))), plus(at, s)
	slow, fast := value.Neg(s), times(value.Int(-2), s)
	m := api.Model{
		Kind:   api.MdCurve,
		Breaks: vals([]value.Num{first, second}),
		Pieces: [][]api.Val{
			vals([]value.Num{slow}), vals([]value.Num{plus(slow, times(value.Int(2), first)), value.Int(-2)}), vals([]value.Num{fast}),
		},
	}
	if sign < 0 {
		slices.Reverse(m.Breaks)
		slices.Reverse(m.Pieces)
	}
	return api.Net{Nodes: 1, Models: []api.Model{m}, Elems: []api.Elem{{Kind: api.ElC, A: 1, Val: "1"}, {Kind: api.ElD, A: 1}}}
}

// A box that is tried may not be farther from 0 than 2 to the power of 200, unless it is found.
func TestP6_7Far(t *testing.T) {
	for _, c := range []struct {
		below int64
		e     api.Errno
	}{{9, api.OK}, {3, api.OK}, {2, api.OK}, {1, wave.ErrStep}, {0, wave.ErrStep}, {-9, wave.ErrStep}} {
		for _, sign := range []int64{1, -1} {
			at := times(value.Int(sign), minus(power(200), value.Int(c.below)))
			n, box := rush(at, sign), []api.Range{value.SpanText(value.Point(at))}
			l, e := wave.Enclose(n, box, "1", 1, 200)
			want, wantE := enclosed(n, box, value.Int(1), 1, 200)
			if e != c.e || wantE != c.e || showBoxes(l) != showBoxes(want) {
				t.Errorf("Enclose %d below the limit, with the sign %d: %s, %d, not %s", c.below, sign, showBoxes(l), e, showBoxes(want))
			}
		}
	}
	far := []api.Range{value.SpanText(value.Point(power(300)))}
	for _, n := range []api.Net{decay(t), ramp(t)} {
		if l, e := wave.Enclose(n, far, "1/8", 3, 20); len(l) != 3 || e != api.OK {
			t.Errorf("Enclose from %v = %s, %d", far, showBoxes(l), e) // as the first boxes are found
		}
	}
}

func TestP6_7Long(t *testing.T) {
	most := "9" + digits(999) // with as many digits as a Val may have
	up := api.Net{Nodes: 1, Elems: []api.Elem{{Kind: api.ElC, A: 1, Val: "1"}, {Kind: api.ElI, B: 1, Val: most}}}
	for _, c := range []struct {
		n     api.Net
		at    api.Val
		h     api.Val
		steps int
		e     api.Errno
	}{
		{up, digits(999), "1/2", 1, api.OK},
		{up, "-" + digits(1000), "1/2", 2, api.OK},
		{up, "-" + digits(1000), "1/2", 3, api.ErrLong},
		{up, most, "1", 1, api.ErrLong},
		{decay(t), "1/" + digits(900), "1/8", 1, api.OK},
		{decay(t), "1/" + digits(1000), "1/8", 1, api.ErrLong}, // in 200 bits
	} {
		l, e := wave.Enclose(c.n, []api.Range{{Lo: c.at, Hi: c.at}}, c.h, c.steps, 200)
		if e != c.e || e != api.OK && l != nil {
			t.Errorf("Enclose from %.10s by %s = %.100s, %d", c.at, c.h, showBoxes(l), e)
		}
	}
	// Without a current a box stays where it is; so one of its ends alone gets too long when it is rounded.
	tiny := "1/" + string(digits(1000))
	for _, box := range []string{tiny + " 1", "-1 -" + tiny} {
		if l, e := wave.Enclose(read(t, "c c1 1 0 1"), ranges(box), "1", 1, 200); l != nil || e != api.ErrLong {
			t.Errorf("Enclose from %.20s = %.100s, %d", box, showBoxes(l), e)
		}
	}
}

func TestP6_7Traps(t *testing.T) {
	swing := "c c1 1 0 1; c c2 2 0 1; g g1 1 0 0 2 1; g g2 2 0 1 0 1" // each voltage drives the other one, around 0
	for _, c := range []struct {
		lines, box string
		trap       bool
	}{
		{"r r1 1 0 1; c c1 1 0 1", "0 0", true},
		{"r r1 1 0 1; c c1 1 0 1", "-1 0", true},
		{"r r1 1 0 1; c c1 1 0 1", "0 1", true},
		{"r r1 1 0 1; c c1 1 0 1", "1/9 1", false},
		{"r r1 1 0 1; c c1 1 0 1", "-1 -1/9", false},
		{"c c1 1 0 1", "3 4", true},
		{"g g1 1 0 1 0 -1; c c1 1 0 1", "-1 1", false},
		{"g g1 1 0 1 0 -1; c c1 1 0 1", "0 1", false},
		{"g g1 1 0 1 0 -1; c c1 1 0 1", "0 0", true},
		{"i i1 0 1 2; r r1 1 0 1; c c1 1 0 4", "0 2", true},
		{"i i1 0 1 2; r r1 1 0 1; c c1 1 0 4", "2 3", true},
		{"i i1 0 1 2; r r1 1 0 1; c c1 1 0 4", "0 19/10", false},
		{"i i1 0 1 2; r r1 1 0 1; c c1 1 0 4", "21/10 3", false},
		{swing, "-1 1 -1 1", false},
		{swing, "0 0 0 0", true},
		{swing + "; r r1 1 0 1; r r2 2 0 1", "-1 1 -1 1", true},
		{swing + "; r r1 1 0 1; r r2 2 0 1", "-1 1 -2 2", false},
		{swing + "; r r1 1 0 1; r r2 2 0 11/10", "-1 1 -1 1", false},
		{"", "", true},
	} {
		n := api.Net{}
		if c.lines != "" {
			n = read(t, c.lines)
		}
		if trap, e := wave.Trap(n, ranges(c.box)); trap != c.trap || e != api.OK {
			t.Errorf("%s: Trap of %s = %t, %d", c.lines, c.box, trap, e)
		}
	}
}

func TestP6_7TrapDefinitions(t *testing.T) {
	g := newNumbers()
	traps := 0
	for range 400 {
		n := g.flowing(1+g.below(2), g.below(6), 4)
		for node := 1; node <= n.Nodes; node++ {
			n.Elems = append(n.Elems, api.Elem{Kind: api.ElR, A: node, Val: "1/9"})
		}
		var box []api.Range
		for range n.Nodes {
			ends := []value.Num{g.num(), g.num()}
			slices.SortFunc(ends, value.Cmp)
			box = append(box, api.Range{Lo: value.Text(ends[0]), Hi: value.Text(ends[1])})
		}
		trap, e := wave.Trap(n, box)
		if trap != trapped(n, box) || e != api.OK {
			t.Fatalf("%v: Trap of %s = %t, %d", n, showRanges(box), trap, e)
		}
		if trap {
			traps++
		}
	}
	if traps < 50 || traps > 350 {
		t.Errorf("%d traps", traps)
	}
}
