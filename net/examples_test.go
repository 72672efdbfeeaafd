package net_test

import (
	"slices"
	"testing"

	"pentode/api"
	"pentode/net"
	"pentode/value"
)

// The tests of this file are the lines of the chapter's table of examples.

func divider(t *testing.T) api.NtFile {
	t.Helper()
	return read(t,
		"model k curve 0 | 1/2 | -1 2", "sub div a b with k 2", "r top a m 1k", "r low m b { k * 1k }", "ends",
		"v v1 in 0 5", "x x1 in 0 div with k 3", "d d1 x1.m 0 k")
}

func TestExamplesOfTexts(t *testing.T) {
	f := divider(t)
	want := api.NtFile{
		Net: api.Net{
			Nodes: 2,
			Elems: []api.Elem{
				{Kind: api.ElV, A: 1, B: 0, Val: "5"},
				{Kind: api.ElR, A: 1, B: 2, Val: "1000"},
				{Kind: api.ElR, A: 2, B: 0, Val: "3000"},
				{Kind: api.ElD, A: 2, B: 0, Model: 0},
			},
			Models: []api.Model{{Kind: api.MdCurve, Breaks: []api.Val{"1/2"}, Pieces: [][]api.Val{{"0"}, {"-1", "2"}}}},
		},
		Nodes:  []string{"in", "x1.m"},
		Elems:  []string{"v1", "x1.top", "x1.low", "d1"},
		Models: []string{"k"},
	}
	if !sameFile(f, want) {
		t.Errorf("Parse of D = %v", f)
	}
	text := lines("model k curve 0 | 1/2 | -1 2", "v v1 in 0 5", "r x1.top in x1.m 1000", "r x1.low x1.m 0 3000", "d d1 x1.m 0 k")
	if s, e := net.Print(f); s != text || e != api.OK {
		t.Errorf("Print of D = %q, %d", s, e)
	}
}

func TestExamplesOfLaws(t *testing.T) {
	curve := divider(t).Net.Models[0]
	square := api.Model{Kind: api.MdSquare, Kp: "2", Vt: "1"}
	for _, c := range []struct {
		m    api.Model
		g, v string
		want api.Val
	}{
		{curve, "0", "1/4", "0"}, {curve, "0", "1/2", "0"}, {curve, "0", "3/2", "2"},
		{square, "3", "1", "3"}, {square, "3", "5", "4"}, {square, "3", "-1", "-5"}, {square, "1", "5", "0"},
	} {
		if x, e := net.Law(c.m, num(t, c.g), num(t, c.v)); value.Text(x) != c.want || e != api.OK {
			t.Errorf("Law at %s, %s = %s, %d", c.g, c.v, value.Text(x), e)
		}
	}
}

func TestExamplesOfGraphs(t *testing.T) {
	n := divider(t).Net
	rows, e := net.Incidence(n)
	if !slices.EqualFunc(rows, [][]int{{-1, 0, -1, -1}, {1, 1, 0, 0}, {0, -1, 1, 1}}, slices.Equal) || e != api.OK {
		t.Errorf("Incidence of D = %v, %d", rows, e)
	}
	rows, e = net.Cycles(n)
	if !slices.EqualFunc(rows, [][]int{{-1, 1, 1, 0}, {-1, 1, 0, 1}}, slices.Equal) || e != api.OK {
		t.Errorf("Cycles of D = %v, %d", rows, e)
	}
	two := api.Net{Nodes: 1, Elems: []api.Elem{{Kind: api.ElV, A: 1, Val: "1"}, {Kind: api.ElV, A: 1, Val: "2"}}}
	if l, e := net.Loop(two, false); !slices.Equal(l, []int{0, 1}) || e != api.OK {
		t.Errorf("Loop of two sources = %v, %d", l, e)
	}
	// The capacitor leaves the node 2 alone as well, which is not the least one.
	one := api.Net{Nodes: 2, Elems: []api.Elem{{Kind: api.ElC, A: 1, B: 2, Val: "1"}}}
	if l, e := net.Cut(one, true); !slices.Equal(l, []int{1}) || e != api.OK {
		t.Errorf("Cut of a capacitor = %v, %d", l, e)
	}
}

// The third example of the document: the divider has 15/4 at x1.m without its device.
func TestExampleOfTheDocument(t *testing.T) {
	f := divider(t)
	top, low := num(t, string(f.Net.Elems[1].Val)), num(t, string(f.Net.Elems[2].Val))
	part, _ := value.Div(low, value.Add(top, low))
	if v := value.Mul(part, num(t, string(f.Net.Elems[0].Val))); value.Text(v) != "15/4" {
		t.Errorf("voltage %s", value.Text(v))
	}
}
