package points_test

import (
	"slices"
	"testing"

	"pentode/api"
	"pentode/net"
	"pentode/points"
	"pentode/poly"
	"pentode/value"
)

// P4.14: the slopes over a point are those of the small-signal net.
func TestP4_14Slopes(t *testing.T) {
	g := newNumbers()
	some := 0
	for range 300 {
		n := g.small(1+g.below(4), g.below(16), 4, all...)
		size, _ := points.Size(n)
		x := g.nums(size)
		small, e := points.Small(n, x)
		if e != api.OK {
			continue
		}
		some++
		if _, _, e := net.Check(small); e != api.OK || len(small.Models) != 0 || small.Nodes != n.Nodes {
			t.Fatalf("%v at %s: Small = %v, which has the error %d", n, show(x), small, e)
		}
		want, _ := points.Slopes(n, point(x))
		got, e := points.Slopes(small, g.spans(size))
		if showSpanRows(got) != showSpanRows(want) || e != api.OK {
			t.Fatalf("%v at %s: the slopes of %v are %s, %d, not %s", n, show(x), small, showSpanRows(got), e, showSpanRows(want))
		}
	}
	if some < 100 {
		t.Errorf("%d small-signal nets", some)
	}
}

// Each kind of elements has its own one, and those of transistors are appended in their order.
func TestP4_8Small(t *testing.T) {
	n := api.Net{Nodes: 4, Models: []api.Model{
		{Kind: api.MdCurve, Breaks: []api.Val{"6"}, Pieces: [][]api.Val{{"1", "2", "3"}, {"-107", "38"}}},
		{Kind: api.MdSquare, Kp: "2", Vt: "1"},
		{Kind: api.MdSquare, Kp: "1/2", Vt: "-3"},
	}, Elems: []api.Elem{
		{Kind: api.ElM, A: 1, B: 2, C: 3, Model: 1},
		{Kind: api.ElR, A: 1, B: 2, Val: "1"},
		{Kind: api.ElC, A: 1, B: 2, Val: "1/2"},
		{Kind: api.ElL, A: 1, B: 2, Val: "1/3"},
		{Kind: api.ElV, A: 1, B: 0, Val: "5"},
		{Kind: api.ElI, A: 1, B: 2, Val: "-4"},
		{Kind: api.ElE, A: 1, B: 2, C: 3, D: 1, Val: "-5"},
		{Kind: api.ElG, A: 1, B: 2, C: 2, D: 3, Val: "6"},
		{Kind: api.ElF, A: 1, B: 2, Ref: 3, Val: "-7"},
		{Kind: api.ElH, A: 1, B: 2, Ref: 8, Val: "8"},
		{Kind: api.ElD, A: 1, B: 2, Model: 0},
		{Kind: api.ElM, A: 1, B: 4, C: 3, Model: 2},
		{Kind: api.ElQ, A: 3, B: 2, Model: 0},
		{Kind: api.ElS, A: 1, B: 2, Ref: 1, Val: "9"},
		{Kind: api.ElS, A: 1, B: 2, Ref: 0, Val: "9"},
	}}
	n.Elems[9].Ref = 9
	// the voltages 7, 1, 5, 2; the slopes at 6 (of both pieces) and at 4
	x := nums(t, "7 1 5 2 0 0 0 0")
	want := api.Net{Nodes: 4, Elems: slices.Clone(n.Elems)}
	want.Elems[0] = api.Elem{Kind: api.ElG, A: 1, B: 2, C: 3, D: 2, Val: "6"} // p 3, q 0
	want.Elems[4].Val, want.Elems[5].Val = "0", "0"
	want.Elems[10] = api.Elem{Kind: api.ElG, A: 1, B: 2, C: 1, D: 2, Val: "38"}
	want.Elems[11] = api.Elem{Kind: api.ElG, A: 1, B: 4, C: 3, D: 4, Val: "5/2"} // p 6, q 1
	want.Elems[12] = api.Elem{Kind: api.ElC, A: 3, B: 2, Val: "26"}
	want.Elems = append(want.Elems, api.Elem{Kind: api.ElG, A: 1, B: 2, C: 1, D: 2, Val: "0"}, api.Elem{Kind: api.ElG, A: 1, B: 4, C: 1, D: 4, Val: "1/2"})
	if small, e := points.Small(n, x); !net.Same(small, want) || e != api.OK {
		t.Errorf("Small = %v, %d", small, e)
	}
	if small, e := points.Small(api.Net{Models: n.Models}, nil); !net.Same(small, api.Net{}) || e != api.OK {
		t.Errorf("Small of nothing = %v, %d", small, e)
	}
}

func TestP4_8SmallErrors(t *testing.T) {
	far, near := string(digits(1000)), "1/"+string(digits(1000))
	curve := func(words string) []api.Model { return device(t, words).Models }
	for name, c := range map[string]struct {
		models []api.Model
		elems  []api.Elem
		x      string
		want   api.Errno
	}{
		"at a break":          {curve("0 1 | 1 | 2 -1"), []api.Elem{{Kind: api.ElD, A: 1}}, "1", points.ErrEdge},
		"above it":            {curve("0 1 | 1 | 2 -1"), []api.Elem{{Kind: api.ElD, A: 1}}, "9/8", api.OK},
		"a smooth break":      {curve("0 1 | 1 | 1 -1 1"), []api.Elem{{Kind: api.ElD, A: 1}}, "1", api.OK},
		"a break of ElQ":      {curve("0 1 | 1 | -1 2"), []api.Elem{{Kind: api.ElQ, A: 1}}, "1", points.ErrEdge},
		"falling and a break": {curve("0 -1 | 1 | 1 -2"), []api.Elem{{Kind: api.ElQ, A: 1}}, "1", points.ErrEdge},
		"falling charge":      {curve("0 1 | 1 | 2 -1"), []api.Elem{{Kind: api.ElQ, A: 1}}, "2", api.ErrRange},
		"constant charge":     {curve("7"), []api.Elem{{Kind: api.ElQ, A: 1}}, "2", api.ErrRange},
		"constant current":    {curve("7"), []api.Elem{{Kind: api.ElD, A: 1}}, "2", api.OK},
		"rising charge":       {curve("0 " + near), []api.Elem{{Kind: api.ElQ, A: 1}}, "2", api.OK},
		"a long slope":        {curve("0 0 0 1"), []api.Elem{{Kind: api.ElD, A: 1}}, far, api.ErrLong},
		"a long falling one":  {curve("0 0 0 -1"), []api.Elem{{Kind: api.ElQ, A: 1}}, far, api.ErrRange},
		"a long rising one":   {curve("0 0 0 1"), []api.Elem{{Kind: api.ElQ, A: 1}}, far, api.ErrLong},
		"the first one": {curve("0 1 | 1 | 1 -1 1"), []api.Elem{{Kind: api.ElQ, A: 1}, {Kind: api.ElD, A: 1}, {Kind: api.ElQ, B: 1}}, "3/4",
			api.OK},
		"the first error": {curve("0 0 1 | 0 | 0 1"), []api.Elem{{Kind: api.ElD, B: 1}, {Kind: api.ElQ, A: 1, B: 2}, {Kind: api.ElD, A: 2}}, "1 2",
			api.ErrRange},
		"the second error": {curve("0 0 1 | 0 | 0 1"), []api.Elem{{Kind: api.ElD, B: 1}, {Kind: api.ElQ, A: 2, B: 1}, {Kind: api.ElD, A: 3}, {Kind: api.ElQ, A: 1, B: 2}}, "1 2 0",
			points.ErrEdge},
	} {
		size := 0
		for _, e := range c.elems {
			size = max(size, e.A, e.B)
		}
		n := api.Net{Nodes: size, Models: c.models, Elems: c.elems}
		small, e := points.Small(n, nums(t, c.x))
		if e != c.want || e != api.OK && (small.Elems != nil || small.Nodes != 0) {
			t.Errorf("%s: Small = %.200v, %d", name, small, e)
		}
		right, axis, e := points.Stable(n, nums(t, c.x))
		if c.want != api.OK && (e != c.want || right != 0 || axis != 0) {
			t.Errorf("%s: Stable = %d, %d, %d", name, right, axis, e)
		}
	}
}

// Slopes of transistors: Kp (p - q) may be too long, or Kp q.
func TestP4_8SmallTransistors(t *testing.T) {
	far := digits(1000)
	for _, c := range []struct {
		kp   api.Val
		x    string
		want api.Errno
	}{
		{far, "3 2", api.OK},        // p 1, q 0
		{far, "3 12", api.OK},       // p 11, q 8: three times 10^999, and eight times it
		{far, "1 13", api.ErrLong},  // p 12, q 11: only Kp q is too long
		{far, "99 21", api.ErrLong}, // p 20, q 0: only Kp (p - q) is
		{far, "0 -5", api.OK},
		{"1", "-3 5", api.OK},
	} {
		n := api.Net{Nodes: 2, Models: []api.Model{{Kind: api.MdSquare, Kp: c.kp, Vt: "1"}}, Elems: []api.Elem{{Kind: api.ElM, A: 1, C: 2}}}
		small, e := points.Small(n, nums(t, c.x))
		if e != c.want || (e == api.OK) != (len(small.Elems) == 2) {
			t.Errorf("Small with %.20s at %s = %.200v, %d", c.kp, c.x, small, e)
		}
	}
	// As many elements as there may be, and one more.
	for transistors := range 61 {
		n := api.Net{Nodes: 1, Models: []api.Model{{Kind: api.MdSquare, Kp: "1", Vt: "1"}}}
		for i := range 40 {
			e := api.Elem{Kind: api.ElR, A: 1, Val: "1"}
			if i < transistors {
				e = api.Elem{Kind: api.ElM, A: 1}
			}
			n.Elems = append(n.Elems, e)
		}
		small, e := points.Small(n, nums(t, "1"))
		if transistors <= 20 && (len(small.Elems) != 40+transistors || e != api.OK) || transistors > 20 && (small.Elems != nil || e != api.ErrLong) {
			t.Errorf("Small with %d transistors = %d elements, %d", transistors, len(small.Elems), e)
		}
	}
}

// expanded is the determinant of a matrix of polynomials, along its first column.
func expanded(m [][][]value.Num) []value.Num {
	if len(m) == 0 {
		return []value.Num{value.Int(1)}
	}
	var sum []value.Num
	for i, row := range m {
		var minor [][][]value.Num
		for k, other := range m {
			if k != i {
				minor = append(minor, other[1:])
			}
		}
		term := poly.Mul(row[0], expanded(minor))
		if i%2 == 1 {
			term = poly.Scale(term, value.Int(-1))
		}
		sum = poly.Add(sum, term)
	}
	return sum
}

// characteristic is Char for a net without curved elements.
func characteristic(n api.Net) []value.Num {
	w := truthOf(n)
	var m [][][]value.Num
	zero := make([]pair, w.size())
	for i := range zero {
		zero[i] = alone(frac("0"))
	}
	for _, row := range w.slopes(zero) {
		var line [][]value.Num
		for _, s := range row {
			line = append(line, []value.Num{back(s.lo)})
		}
		m = append(m, line)
	}
	add := func(row, column int, v value.Num) {
		if row >= 0 && column >= 0 {
			m[row][column] = poly.Add(m[row][column], []value.Num{{}, v})
		}
	}
	for i, e := range n.Elems {
		switch e.Kind {
		case api.ElC:
			v := back(frac(e.Val))
			add(e.A-1, e.A-1, v)
			add(e.A-1, e.B-1, value.Neg(v))
			add(e.B-1, e.A-1, value.Neg(v))
			add(e.B-1, e.B-1, v)
		case api.ElL:
			add(w.flow(i), w.flow(i), value.Neg(back(frac(e.Val))))
		}
	}
	return expanded(m)
}

func TestP4_8Char(t *testing.T) {
	g := newNumbers()
	degrees := map[int]int{}
	for range 300 {
		n := g.small(g.below(4), g.below(9), 1, api.ElR, api.ElC, api.ElC, api.ElL, api.ElL, api.ElV, api.ElI, api.ElE, api.ElG, api.ElF, api.ElH, api.ElS)
		if n.Nodes+len(carriers(n)) > 6 {
			continue
		}
		want := characteristic(n)
		p, e := points.Char(n)
		if show(p) != show(want) || len(p) != poly.Deg(p)+1 || e != api.OK {
			t.Fatalf("%v: Char = %s, %d, not %s", n, show(p), e, show(want))
		}
		degrees[poly.Deg(p)]++
	}
	if len(degrees) < 5 || degrees[-1] < 10 {
		t.Errorf("degrees %v", degrees)
	}
}

func TestP4_8CharOfNets(t *testing.T) {
	for _, c := range []struct {
		lines []string
		want  string
	}{
		{[]string{"c c1 1 0 2"}, "0 2"},
		{[]string{"c c1 1 1 2"}, ""},
		{[]string{"r r1 1 0 2"}, "1/2"},
		{[]string{"l l1 1 0 3"}, "-1"},                  // current and voltage: 0 1 / 1 -3 s
		{[]string{"l l1 1 0 3", "r r1 1 0 1"}, "-1 -3"}, // 1 1 / 1 -3 s
		{[]string{"c c1 1 0 2", "l l1 1 0 3"}, "-1 0 -6"},
		{[]string{"v v1 1 0 5", "r r1 1 2 1", "c c1 2 0 1"}, "-1 -1"},
		{[]string{"s s1 1 0 off 1", "c c1 1 0 1"}, "0 1"},
		{[]string{"s s1 1 0 on 1", "c c1 1 0 1"}, "1 1"},
	} {
		if p, e := points.Char(read(t, c.lines...)); show(p) != c.want || e != api.OK {
			t.Errorf("Char of %q = %s, %d", c.lines, show(p), e)
		}
	}
	if p, e := points.Char(api.Net{}); show(p) != "1" || e != api.OK {
		t.Errorf("Char of no unknowns = %s, %d", show(p), e)
	}
	for _, lines := range [][]string{
		{"model k curve 0 1", "d d1 1 0 k"}, {"model k curve 0 1", "q q1 1 0 k"}, {"model k square 1 1", "r r1 1 0 1", "m m1 1 0 0 k"},
	} {
		if p, e := points.Char(read(t, lines...)); p != nil || e != api.ErrForm {
			t.Errorf("Char of %q = %s, %d", lines, show(p), e)
		}
	}
	// A model that nothing has makes no difference.
	if p, e := points.Char(read(t, "model k curve 0 1", "r r1 1 0 1")); show(p) != "1" || e != api.OK {
		t.Errorf("Char = %s, %d", show(p), e)
	}
	// Twelve unknowns, each with its capacitor: the product of the polynomials of all of them.
	n := api.Net{Nodes: 12}
	want := []value.Num{value.Int(1)}
	for node := 1; node <= 12; node++ {
		n.Elems = append(n.Elems, api.Elem{Kind: api.ElR, A: node, Val: "2"}, api.Elem{Kind: api.ElC, A: node, Val: value.Text(value.Int(int64(node)))})
		want = poly.Mul(want, []value.Num{num(t, "1/2"), value.Int(int64(node))})
	}
	if p, e := points.Char(n); show(p) != show(want) || e != api.OK {
		t.Errorf("Char = %s, %d", show(p), e)
	}
}

func TestP4_8Stable(t *testing.T) {
	for _, c := range []struct {
		lines       []string
		x           string
		right, axis int
		e           api.Errno
	}{
		{[]string{"c c1 1 0 1", "l l1 1 0 1"}, "0 0", 0, 2, api.OK},
		{[]string{"c c1 1 0 1", "l l1 1 0 1", "r r1 1 0 1"}, "0 0", 0, 0, api.OK},
		{[]string{"c c1 1 0 1", "l l1 1 0 1", "g g1 1 0 1 0 -1"}, "0 0", 2, 0, api.OK},
		{[]string{"c c1 1 0 1"}, "0", 0, 1, api.OK},
		{[]string{"s s1 1 0 off 1"}, "0", 0, 0, api.ErrSingular},
		{[]string{"v v1 1 0 1", "v v2 1 0 1"}, "0 0 0", 0, 0, api.ErrSingular},
		{[]string{"r r1 1 0 1"}, "0", 0, 0, api.OK},
		{[]string{"model k curve 0 1 | 1 | 2 -1", "d d1 1 0 k", "c c1 1 0 1"}, "0", 0, 0, api.OK},
		{[]string{"model k curve 0 1 | 1 | 2 -1", "d d1 1 0 k", "c c1 1 0 1"}, "2", 1, 0, api.OK},
		{[]string{"model k curve 0 1 | 1 | 2 -1", "d d1 1 0 k", "c c1 1 0 1"}, "1", 0, 0, points.ErrEdge},
		{[]string{"model k curve 0 1 | 1 | 2 -1", "r r1 1 0 1", "q q1 1 0 k"}, "0", 0, 0, api.OK},
		{[]string{"model k curve 0 1 | 1 | 2 -1", "r r1 1 0 1", "q q1 1 0 k"}, "2", 0, 0, api.ErrRange},
	} {
		right, axis, e := points.Stable(read(t, c.lines...), nums(t, c.x))
		if right != c.right || axis != c.axis || e != c.e {
			t.Errorf("Stable of %q at %s = %d, %d, %d", c.lines, c.x, right, axis, e)
		}
	}
	if right, axis, e := points.Stable(api.Net{}, nil); right != 0 || axis != 0 || e != api.OK {
		t.Errorf("Stable of no unknowns = %d, %d, %d", right, axis, e)
	}
}

// P4.14: what has resistors and capacitors alone, with all nodes connected with the ground by resistors, is stable.
func TestP4_14Passive(t *testing.T) {
	g := newNumbers()
	for range 100 {
		n := g.net(1+g.below(5), g.below(12), 1, api.ElR, api.ElC)
		for node := 1; node <= n.Nodes; node++ {
			n.Elems = append(n.Elems, api.Elem{Kind: api.ElR, A: node, B: g.below(node), Val: g.above()})
		}
		p, e := points.Char(n)
		if e != api.OK || len(p) == 0 {
			t.Fatalf("%v: Char = %s, %d", n, show(p), e)
		}
		if right, axis, e := points.Stable(n, make([]value.Num, n.Nodes)); right != 0 || axis != 0 || e != api.OK {
			t.Fatalf("%v: Stable = %d, %d, %d", n, right, axis, e)
		}
	}
}
