package net_test

import (
	"slices"
	"strings"
	"testing"

	"pentode/api"
	"pentode/net"
	"pentode/value"
)

// num reads a number, which has to be valid.
func num(t testing.TB, s string) value.Num {
	t.Helper()
	x, e := value.Read(s)
	if e != api.OK {
		t.Fatalf("Read(%.40q) = %d", s, e)
	}
	return x
}

// lines puts a byte 10 behind each line.
func lines(list ...string) string {
	return strings.Join(append(slices.Clone(list), ""), "\n")
}

// read reads a text, which has to be right.
func read(t testing.TB, list ...string) api.NtFile {
	t.Helper()
	f, line, e := net.Parse(lines(list...))
	if line != 0 || e != api.OK {
		t.Fatalf("Parse(%.200q) = %d, %d", list, line, e)
	}
	return f
}

// flat is what Print writes for a text, which has to be right, without the byte 10 at the end.
func flat(t testing.TB, list ...string) string {
	t.Helper()
	s, e := net.Print(read(t, list...))
	if e != api.OK {
		t.Fatalf("Print of %.200q = %d", list, e)
	}
	return strings.TrimSuffix(s, "\n")
}

// sameFile reports whether two files are equal.
func sameFile(f, g api.NtFile) bool {
	return net.Same(f.Net, g.Net) && slices.Equal(f.Nodes, g.Nodes) && slices.Equal(f.Elems, g.Elems) && slices.Equal(f.Models, g.Models)
}

// copied is a net in memory of its own.
func copied(n api.Net) api.Net {
	m := api.Net{Nodes: n.Nodes, Elems: append([]api.Elem(nil), n.Elems...)}
	for _, from := range n.Models {
		to := from
		to.Breaks = append([]api.Val(nil), from.Breaks...)
		to.Pieces = nil
		for _, piece := range from.Pieces {
			to.Pieces = append(to.Pieces, append([]api.Val(nil), piece...))
		}
		m.Models = append(m.Models, to)
	}
	return m
}

// copiedFile is a file in memory of its own.
func copiedFile(f api.NtFile) api.NtFile {
	list := func(l []string) []string { return append([]string(nil), l...) }
	return api.NtFile{Net: copied(f.Net), Nodes: list(f.Nodes), Elems: list(f.Elems), Models: list(f.Models)}
}

// bend is a curve of two pieces, and law a square one.
func bend() api.Model {
	return api.Model{Kind: api.MdCurve, Breaks: []api.Val{"1/2"}, Pieces: [][]api.Val{{"0"}, {"-1", "2"}}}
}

func law() api.Model {
	return api.Model{Kind: api.MdSquare, Kp: "2", Vt: "1"}
}

// each has an element of each kind.
func each() api.Net {
	return api.Net{Nodes: 3, Models: []api.Model{bend(), law()}, Elems: []api.Elem{
		{Kind: api.ElR, A: 1, B: 2, Val: "1"},
		{Kind: api.ElC, A: 1, B: 2, Val: "1/2"},
		{Kind: api.ElL, A: 1, B: 2, Val: "1/3"},
		{Kind: api.ElV, A: 1, B: 0, Val: "0"},
		{Kind: api.ElI, A: 1, B: 2, Val: "-4"},
		{Kind: api.ElE, A: 1, B: 2, C: 3, D: 1, Val: "-5"},
		{Kind: api.ElG, A: 1, B: 2, C: 2, D: 3, Val: "6"},
		{Kind: api.ElF, A: 1, B: 2, Ref: 3, Val: "-7"},
		{Kind: api.ElH, A: 1, B: 2, Ref: 8, Val: "8"},
		{Kind: api.ElD, A: 1, B: 2, Model: 0},
		{Kind: api.ElM, A: 1, B: 2, C: 3, Model: 1},
		{Kind: api.ElQ, A: 1, B: 2, Model: 0},
		{Kind: api.ElS, A: 1, B: 2, Ref: 1, Val: "9"},
	}}
}

// numbers gives the same numbers in each run.
type numbers struct{ state uint64 }

func newNumbers() *numbers {
	return &numbers{state: 88172645463325252}
}

// below is an int from 0 to n - 1.
func (g *numbers) below(n int) int {
	g.state ^= g.state << 13
	g.state ^= g.state >> 7
	g.state ^= g.state << 17
	return int(g.state % uint64(n))
}

// above is a text of a small number above 0.
func (g *numbers) above() api.Val {
	x, _ := value.Ratio(int64(1+g.below(20)), int64(1+g.below(6)))
	return value.Text(x)
}

// val is a text of a small number.
func (g *numbers) val() api.Val {
	x, _ := value.Ratio(int64(g.below(41)-20), int64(1+g.below(6)))
	return value.Text(x)
}

// carriers are the numbers of elements that carry a current of their own.
func carriers(n api.Net) []int {
	var own []int
	for i, e := range n.Elems {
		switch e.Kind {
		case api.ElL, api.ElV, api.ElE, api.ElH:
			own = append(own, i)
		}
	}
	return own
}

// net is a valid net with so many nodes beside the ground, and elements of all kinds.
func (g *numbers) net(nodes, elems int) api.Net {
	n := api.Net{Nodes: nodes, Models: []api.Model{bend(), law(), bend()}}
	for range elems {
		e := api.Elem{Kind: 1 + g.below(13), A: g.below(nodes + 1), B: g.below(nodes + 1)}
		switch e.Kind {
		case api.ElR, api.ElC, api.ElL:
			e.Val = g.above()
		case api.ElV, api.ElI, api.ElF, api.ElH:
			e.Val = g.val()
		case api.ElE, api.ElG:
			e.C, e.D, e.Val = g.below(nodes+1), g.below(nodes+1), g.val()
		case api.ElD, api.ElQ:
			e.Model = 2 * g.below(2)
		case api.ElM:
			e.C, e.Model = g.below(nodes+1), 1
		case api.ElS:
			e.Ref, e.Val = g.below(2), g.above()
		}
		n.Elems = append(n.Elems, e)
	}
	own := carriers(n)
	for i, e := range n.Elems {
		if e.Kind != api.ElF && e.Kind != api.ElH {
			continue
		}
		if len(own) == 0 {
			n.Elems[i] = api.Elem{Kind: api.ElI, A: e.A, B: e.B, Val: e.Val}
		} else {
			n.Elems[i].Ref = own[g.below(len(own))]
		}
	}
	return n
}
