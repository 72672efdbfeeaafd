package points_test

import (
	"fmt"
	"math/big"
	"testing"

	"pentode/api"
	"pentode/net"
	"pentode/points"
	"pentode/value"
)

// same reports whether spans are those of the definitions.
func same(got []value.Span, want []pair) bool {
	return showSpans(got) == showPairs(want)
}

func showPairs(list []pair) string {
	var texts []api.Range
	for _, p := range list {
		texts = append(texts, api.Range{Lo: api.Val(p.lo.RatString()), Hi: api.Val(p.hi.RatString())})
	}
	return showRanges(texts)
}

func showFracs(list []*big.Rat) string {
	var nums []value.Num
	for _, x := range list {
		nums = append(nums, back(x))
	}
	return show(nums)
}

// four is a net of four nodes with an element, and a source from the node 3 to the ground.
func four(e api.Elem) api.Net {
	return api.Net{Nodes: 4, Elems: []api.Elem{e, {Kind: api.ElV, A: 3, Val: "5"}}, Models: []api.Model{
		{Kind: api.MdCurve, Pieces: [][]api.Val{{"1", "2", "3"}}}, {Kind: api.MdSquare, Kp: "2", Vt: "1"},
	}}
}

// Each row of the table of currents, at the voltages 7, 1, 5 and 9, and with the current 7 of the source.
func TestP4_1Currents(t *testing.T) {
	for _, c := range []struct {
		e    api.Elem
		want api.Val
	}{
		{api.Elem{Kind: api.ElR, A: 1, B: 2, Val: "3"}, "2"},
		{api.Elem{Kind: api.ElR, A: 2, B: 1, Val: "3"}, "-2"},
		{api.Elem{Kind: api.ElS, A: 1, B: 2, Ref: 1, Val: "3"}, "2"},
		{api.Elem{Kind: api.ElS, A: 1, B: 2, Ref: 0, Val: "3"}, "0"},
		{api.Elem{Kind: api.ElC, A: 1, B: 2, Val: "3"}, "0"},
		{api.Elem{Kind: api.ElQ, A: 1, B: 2, Model: 0}, "0"},
		{api.Elem{Kind: api.ElI, A: 1, B: 2, Val: "3"}, "3"},
		{api.Elem{Kind: api.ElG, A: 1, B: 2, C: 3, D: 4, Val: "3"}, "-12"},
		{api.Elem{Kind: api.ElF, A: 1, B: 2, Ref: 1, Val: "3"}, "21"},
		{api.Elem{Kind: api.ElD, A: 1, B: 2, Model: 0}, "121"},
		{api.Elem{Kind: api.ElM, A: 1, B: 2, C: 3, Model: 1}, "9"},
		{api.Elem{Kind: api.ElM, A: 1, B: 2, C: 4, Model: 1}, "48"},
		{api.Elem{Kind: api.ElM, A: 2, B: 1, C: 4, Model: 1}, "-48"},
		{api.Elem{Kind: api.ElM, A: 1, B: 2, C: 2, Model: 1}, "0"},
	} {
		l, e := points.Residual(four(c.e), nums(t, "7 1 5 9 7"))
		a, b := l[c.e.A-1], l[c.e.B-1]
		if value.Text(a) != c.want || value.Sign(value.Add(a, b)) != 0 || show(l[2:]) != "7 0 0" || e != api.OK {
			t.Errorf("%v: Residual = %s, %d", c.e, show(l), e)
		}
	}
}

// Each row of the table with an equation of its own, at these voltages, the current 2 of the element, and 7 of the source.
func TestP4_1Laws(t *testing.T) {
	for _, c := range []struct {
		e    api.Elem
		want api.Val
	}{
		{api.Elem{Kind: api.ElL, A: 1, B: 2, Val: "3"}, "6"},
		{api.Elem{Kind: api.ElV, A: 1, B: 2, Val: "3"}, "3"},
		{api.Elem{Kind: api.ElV, A: 2, B: 1, Val: "3"}, "-9"},
		{api.Elem{Kind: api.ElE, A: 1, B: 2, C: 3, D: 4, Val: "3"}, "18"},
		{api.Elem{Kind: api.ElH, A: 1, B: 2, Ref: 0, Val: "3"}, "0"},
		{api.Elem{Kind: api.ElH, A: 1, B: 2, Ref: 1, Val: "3"}, "-15"},
	} {
		l, e := points.Residual(four(c.e), nums(t, "7 1 5 9 2 7"))
		a, b := l[c.e.A-1], l[c.e.B-1]
		if value.Text(l[4]) != c.want || value.Text(a) != "2" || value.Text(b) != "-2" || show(l[2:4]) != "7 0" || e != api.OK {
			t.Errorf("%v: Residual = %s, %d", c.e, show(l), e)
		}
	}
}

func TestP4_1Definitions(t *testing.T) {
	g := newNumbers()
	for i := range 300 {
		nodes := g.below(6)
		n := g.small(nodes, g.below(18), 4, all...)
		w := truthOf(n)
		size, e := points.Size(n)
		if size != w.size() || e != api.OK {
			t.Fatalf("%v: Size = %d, %d", n, size, e)
		}
		x := g.nums(size)
		if l, e := points.Residual(n, x); show(l) != showFracs(w.residual(fracs(x))) || len(l) != size || e != api.OK {
			t.Fatalf("%d: %v at %s: Residual = %s, %d", i, n, show(x), show(l), e)
		}
		box := g.spans(size)
		if l, e := points.Reach(n, box); !same(l, w.reach(pairsOf(box))) || len(l) != size || e != api.OK {
			t.Fatalf("%v over %s: Reach = %s, %d, not %v", n, showSpans(box), showSpans(l), e, w.reach(pairsOf(box)))
		}
		m, e := points.Slopes(n, box)
		if len(m) != size || e != api.OK {
			t.Fatalf("Slopes = %v, %d", m, e)
		}
		for row, want := range w.slopes(pairsOf(box)) {
			if !same(m[row], want) || len(m[row]) != size {
				t.Fatalf("%v over %s: Slopes of the equation %d = %s, not %v", n, showSpans(box), row, showSpans(m[row]), want)
			}
		}
	}
}

// The currents of the definitions above are computed with spans; those of the models are these of package net.
func TestP4_1Models(t *testing.T) {
	g := newNumbers()
	for range 200 {
		n := g.net(3, 1, 4, api.ElD, api.ElM)
		e := &n.Elems[0]
		e.A, e.B, e.C = 1, 2, 0
		if e.Kind == api.ElM {
			e.C = 3
		}
		x := g.nums(3)
		want, _ := net.Law(n.Models[e.Model], value.Sub(x[2], x[1]), value.Sub(x[0], x[1]))
		l, _ := points.Residual(n, x)
		if show(l) != show([]value.Num{want, value.Neg(want), {}}) {
			t.Fatalf("%v at %s: Residual = %s", n, show(x), show(l))
		}
	}
}

// With both ends at the same node a current is added and subtracted, and so are its slopes.
func TestP4_1SameNode(t *testing.T) {
	for _, c := range []struct{ line, reach, slopes string }{
		{"r x 1 1 2", "-1 1", "0 0"},
		{"d x 1 1 k", "-6 6", "-4 4"},
		{"i x 1 1 7", "0 0", "0 0"},
		{"g x 1 1 1 0 3", "-3 3", "0 0"},
	} {
		n := read(t, "model k curve -1 2 | 0 | -1 4", c.line)
		box := spans(t, "2 1")
		if l, e := points.Reach(n, box); showSpans(l) != c.reach || e != api.OK {
			t.Errorf("%s: Reach = %s, %d", c.line, showSpans(l), e)
		}
		if m, e := points.Slopes(n, box); showSpanRows(m) != c.slopes || e != api.OK {
			t.Errorf("%s: Slopes = %s, %d", c.line, showSpanRows(m), e)
		}
	}
}

// A span that only touches a break has something of both pieces.
func TestP4_1Breaks(t *testing.T) {
	n := device(t, "0 1 | 1 | 2 -1 | 2 | 4 -2 | 3 | -8 2")
	for _, c := range []struct{ box, reach, slopes string }{
		{"0 1", "0 1", "-1 1"}, {"1 1", "1 1", "-1 1"}, {"3/2 3/2", "1/2 1/2", "-1 -1"}, {"2 5/2", "-1 0", "-2 -1"},
		{"3 4", "-2 0", "-2 2"}, {"4 7/2", "-1 0", "2 2"}, {"-5 -4", "-5 -4", "1 1"}, {"-5 5", "-5 2", "-2 2"}, {"1/2 4", "-2 1", "-2 2"},
	} {
		if l, e := points.Reach(n, spans(t, c.box)); showSpans(l) != c.reach || e != api.OK {
			t.Errorf("Reach over %s = %s, %d", c.box, showSpans(l), e)
		}
		if m, e := points.Slopes(n, spans(t, c.box)); showSpanRows(m) != c.slopes || e != api.OK {
			t.Errorf("Slopes over %s = %s, %d", c.box, showSpanRows(m), e)
		}
	}
}

func TestP4_1Size(t *testing.T) {
	for _, c := range []struct {
		n    api.Net
		size int
		e    api.Errno
	}{
		{api.Net{}, 0, api.OK},
		{api.Net{Nodes: 12}, 12, api.OK},
		{api.Net{Nodes: 13}, 0, api.ErrLong},
		{api.Net{Nodes: 20}, 0, api.ErrLong},
		{api.Net{Nodes: 21}, 0, api.ErrRange},
		{api.Net{Nodes: -1}, 0, api.ErrRange},
		{api.Net{Nodes: 11, Elems: []api.Elem{{Kind: api.ElV, Val: "1"}}}, 12, api.OK},
		{api.Net{Nodes: 11, Elems: []api.Elem{{Kind: api.ElV, Val: "1"}, {Kind: api.ElL, Val: "1"}}}, 0, api.ErrLong},
		{api.Net{Nodes: 13, Elems: []api.Elem{{Kind: api.ElV}}}, 0, api.ErrForm},
		{api.Net{Elems: make([]api.Elem, 61)}, 0, api.ErrLong},
		{api.Net{Elems: make([]api.Elem, 60)}, 0, api.ErrArg},
		{api.Net{Elems: []api.Elem{{Kind: api.ElE, Val: "1"}, {Kind: api.ElH, Val: "1"}, {Kind: api.ElR, Val: "1"}}}, 2, api.OK},
	} {
		if size, e := points.Size(c.n); size != c.size || e != c.e {
			t.Errorf("Size of %v = %d, %d", c.n, size, e)
		}
	}
}

// P4.11: the values at a point are in the reach, and differences are in the slopes times those of the unknowns.
func TestP4_11(t *testing.T) {
	g := newNumbers()
	for range 300 {
		n := g.small(g.below(5), g.below(14), 4, all...)
		size, _ := points.Size(n)
		box := g.spans(size)
		reach, _ := points.Reach(n, box)
		slopes, _ := points.Slopes(n, box)
		for range 8 {
			var x, y []value.Num
			for _, s := range box {
				x, y = append(x, g.inside(s)), append(y, g.inside(s))
			}
			f, _ := points.Residual(n, x)
			h, _ := points.Residual(n, y)
			for i := range f {
				var sum value.Span
				for k := range x {
					sum = value.SpanAdd(sum, value.SpanMul(slopes[i][k], value.Point(value.Sub(x[k], y[k]))))
				}
				if !value.SpanHas(reach[i], f[i]) || !value.SpanHas(sum, value.Sub(f[i], h[i])) {
					t.Fatalf("%v over %s: from %s to %s the equation %d leaves its spans", n, showSpans(box), show(y), show(x), i)
				}
			}
		}
	}
}

// What has an error returns nothing else; the errors of the net come first, then that of the lengths.
func TestP4_1Errors(t *testing.T) {
	good := tunnel(t)
	bad := api.Net{Nodes: 1, Elems: []api.Elem{{Kind: api.ElR, A: 1, Val: "0"}}}
	long := api.Net{Nodes: 13}
	for _, c := range []struct {
		n    api.Net
		size int
		want api.Errno
	}{
		{good, 3, api.OK}, {good, 2, api.ErrArg}, {good, 4, api.ErrArg}, {good, 0, api.ErrArg}, {bad, 1, api.ErrRange}, {bad, 5, api.ErrRange},
		{long, 13, api.ErrLong}, {long, 1, api.ErrLong}, {api.Net{}, 0, api.OK}, {api.Net{}, 1, api.ErrArg},
	} {
		x, box := make([]value.Num, c.size), make([]value.Span, c.size)
		f, e := points.Residual(c.n, x)
		if e != c.want || e != api.OK && f != nil {
			t.Errorf("%v: Residual of %d = %s, %d", c.n, c.size, show(f), e)
		}
		r, e := points.Reach(c.n, box)
		if e != c.want || e != api.OK && r != nil {
			t.Errorf("%v: Reach of %d = %s, %d", c.n, c.size, showSpans(r), e)
		}
		s, e := points.Slopes(c.n, box)
		if e != c.want || e != api.OK && s != nil {
			t.Errorf("%v: Slopes of %d = %s, %d", c.n, c.size, showSpanRows(s), e)
		}
		q, e := points.Small(c.n, x)
		if e != c.want && e != points.ErrEdge || e != api.OK && fmt.Sprint(q) != fmt.Sprint(api.Net{}) {
			t.Errorf("%v: Small of %d = %v, %d", c.n, c.size, q, e)
		}
		right, axis, e := points.Stable(c.n, x)
		if e != c.want && e != points.ErrEdge || e != api.OK && (right != 0 || axis != 0) {
			t.Errorf("%v: Stable of %d = %d, %d, %d", c.n, c.size, right, axis, e)
		}
	}
}
