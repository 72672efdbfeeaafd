package points_test

import (
	"testing"

	"pentode/api"
	"pentode/net"
	"pentode/points"
	"pentode/value"
)

// The tests of this file are the lines of the chapter's table of examples.

func TestErrorNumbers(t *testing.T) {
	if got := [...]api.Errno{points.ErrTree, points.ErrItem, points.ErrFault, points.ErrMore, points.ErrEdge}; got != [...]api.Errno{140, 141, 142, 143, 144} {
		t.Errorf("the errors are %v", got)
	}
}

func TestExamplesOfEquations(t *testing.T) {
	w := tunnel(t)
	if k, e := points.Size(w); k != 3 || e != api.OK {
		t.Errorf("Size of W = %d, %d", k, e)
	}
	if l, e := points.Residual(w, nums(t, "5/2 1/2 -1")); show(l) != "0 -1/2 0" || e != api.OK {
		t.Errorf("Residual of W = %s, %d", show(l), e)
	}
	if l, e := points.Residual(w, nums(t, "1")); l != nil || e != api.ErrArg {
		t.Errorf("Residual of one number = %s, %d", show(l), e)
	}
	if l, e := points.Reach(w, spans(t, "5/2 5/2 0 3 -1 -1")); e != api.OK || showSpans(l) != "-5/4 1/4 -5/4 5/4 0 0" {
		t.Errorf("Reach of W = %s, %d", showSpans(l), e)
	}
	for _, c := range []struct{ v2, want string }{{"0 1/2", "3/2 3/2"}, {"1/2 1", "-1/2 3/2"}, {"0 3", "-1/2 3/2"}} {
		m, e := points.Slopes(w, spans(t, "5/2 5/2 "+c.v2+" -1 -1"))
		if want := "1/2 1/2 -1/2 -1/2 1 1 / -1/2 -1/2 " + c.want + " 0 0 / 1 1 0 0 0 0"; showSpanRows(m) != want || e != api.OK {
			t.Errorf("Slopes of W over %s = %s, %d", c.v2, showSpanRows(m), e)
		}
	}
}

func TestExamplesOfMatrices(t *testing.T) {
	if x, e := points.Solve(rows(t, "2 1 / 1 1"), nums(t, "3 2")); show(x) != "1 1" || e != api.OK {
		t.Errorf("Solve = %s, %d", show(x), e)
	}
	if x, e := points.Solve(rows(t, "1 1 / 1 1"), nums(t, "1 1")); x != nil || e != api.ErrSingular {
		t.Errorf("Solve = %s, %d", show(x), e)
	}
}

func TestExamplesOfExactPoints(t *testing.T) {
	w := tunnel(t)
	if l, e := points.Exact(w); showRows(l) != "5/2 5/6 -5/6 / 5/2 3/2 -1/2 / 5/2 13/6 -1/6" || e != api.OK {
		t.Errorf("Exact of W = %s, %d", showRows(l), e)
	}
	other, _ := net.With(w, 1, "1")
	if l, e := points.Exact(other); l != nil || e != api.ErrSingular {
		t.Errorf("Exact with 1 for r1 = %s, %d", showRows(l), e)
	}
}

func TestExamplesOfSmallSignals(t *testing.T) {
	n, e := points.Small(tunnel(t), nums(t, "5/2 13/6 -1/6"))
	want := api.Net{Nodes: 2, Elems: []api.Elem{
		{Kind: api.ElV, A: 1, Val: "0"}, {Kind: api.ElR, A: 1, B: 2, Val: "2"}, {Kind: api.ElG, A: 2, C: 2, Val: "1"},
	}}
	if !net.Same(n, want) || e != api.OK {
		t.Errorf("Small of W = %v, %d", n, e)
	}
	if p, e := points.Char(read(t, "r r1 1 0 2", "c c1 1 0 3")); show(p) != "1/2 3" || e != api.OK {
		t.Errorf("Char = %s, %d", show(p), e)
	}
	held := tunnel(t, "c c1 2 0 1")
	l, _ := points.Exact(held)
	for i, x := range l {
		if right, axis, e := points.Stable(held, x); right != i%2 || axis != 0 || e != api.OK {
			t.Errorf("Stable at %s = %d, %d, %d", show(x), right, axis, e)
		}
	}
	if len(l) != 3 {
		t.Errorf("%d points", len(l))
	}
}

// The first two examples of the document: the natural frequency in the middle is 1/2.
func TestExamplesOfTheDocument(t *testing.T) {
	held := tunnel(t, "c c1 2 0 1")
	for _, c := range []struct{ at, want string }{{"5/2 5/6 -5/6", "-3/2"}, {"5/2 3/2 -1/2", "1/2"}, {"5/2 13/6 -1/6", "-3/2"}} {
		n, _ := points.Small(held, nums(t, c.at))
		p, e := points.Char(n)
		if e != api.OK || len(p) != 2 {
			t.Fatalf("Char at %s = %s, %d", c.at, show(p), e)
		}
		root, _ := value.Div(value.Neg(p[0]), p[1])
		if show([]value.Num{root}) != c.want {
			t.Errorf("the natural frequency at %s is %s", c.at, show([]value.Num{root}))
		}
	}
}
