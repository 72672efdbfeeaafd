package plan_test

import (
	"fmt"
	"slices"
	"strconv"
	"strings"
	"testing"

	"pentode/api"
	"pentode/net"
	"pentode/plan"
)

// tech is the technology of the chapter's examples.
func tech() api.PlTech {
	return api.PlTech{Sheet: "10", Area: "0", Cross: "0", Kp: "2", Vt: "1"}
}

// layerNames are how layers are written in tests, by their numbers.
var layerNames = []string{"none", "diff", "poly", "mark", "metal", "cut", "top", "via"}

// words cuts a text at commas, and its parts at blanks.
func words(s string) [][]string {
	var list [][]string
	for part := range strings.SplitSeq(s, ",") {
		if w := strings.Fields(part); len(w) > 0 {
			list = append(list, w)
		}
	}
	return list
}

// ints reads numbers, whatever stands beside them.
func ints(list []string) []int {
	var l []int
	for _, w := range list {
		n, _ := strconv.Atoi(w)
		l = append(l, n)
	}
	return l
}

// layout reads rectangles, such as diff 0 0 5 2, and labels, such as d diff 0 0, which are separated by commas.
func layout(rects, labels string) api.PlLayout {
	l := api.PlLayout{Tech: tech()}
	for _, w := range words(rects) {
		n := ints(w)
		l.Rects = append(l.Rects, api.PlRect{Layer: slices.Index(layerNames, w[0]), X: n[1], Y: n[2], W: n[3], H: n[4]})
	}
	for _, w := range words(labels) {
		n := ints(w)
		l.Labels = append(l.Labels, api.PlLabel{Name: w[0], Layer: slices.Index(layerNames, w[1]), X: n[2], Y: n[3]})
	}
	return l
}

// transistor is the layout of the chapter's example, resistor that of its other one.
func transistor() api.PlLayout {
	return layout("diff 0 0 5 2, poly 2 0 1 3", "d diff 0 0, s diff 4 0, g poly 2 2")
}

func resistor() api.PlLayout {
	return layout("poly 0 0 6 1, mark 1 0 4 1", "a poly 0 0, b poly 5 0")
}

// cells reads cells that are separated by commas.
func cells(s string) []api.PlCell {
	var list []api.PlCell
	for _, w := range words(s) {
		n := ints(w)
		list = append(list, api.PlCell{X: n[0], Y: n[1]})
	}
	return list
}

// square is a model of a transistor.
func square(kp, vt api.Val) api.Model {
	return api.Model{Kind: api.MdSquare, Kp: kp, Vt: vt}
}

// read is the net of some lines, which have to be right.
func read(t testing.TB, lines ...string) api.Net {
	t.Helper()
	f, line, e := net.Parse(strings.Join(lines, "\n") + "\n")
	if e != api.OK {
		t.Fatalf("Parse(%q) = %d, %d", lines, line, e)
	}
	return f.Net
}

// digits is the text of an integer with so many digits.
func digits(n int) api.Val {
	return api.Val("1" + strings.Repeat("0", n-1))
}

// brief is the beginning of what a value is written like.
func brief(x any) string {
	s := fmt.Sprintf("%v", x)
	return s[:min(len(s), 300)]
}

// isFound holds what is found in a layout against what has to be.
func isFound(t *testing.T, what string, l api.PlLayout, nodes string, elems []api.Elem, models ...api.Model) api.PlFound {
	t.Helper()
	f, e := plan.Extract(l)
	want := api.Net{Nodes: len(strings.Fields(nodes)), Elems: elems, Models: models}
	if e != api.OK || !net.Same(f.Net, want) || !slices.Equal(f.Nodes, strings.Fields(nodes)) {
		t.Errorf("Extract of %s = %s, %d, not %s, %s", what, brief(f), e, brief(want), nodes)
	}
	return f
}

// hasError holds the error of Extract against what it has to be.
func hasError(t *testing.T, what string, l api.PlLayout, want api.Errno) {
	t.Helper()
	if f, e := plan.Extract(l); e != want || e != api.OK && !isNothing(f) {
		t.Errorf("Extract of %s = %s, %d, not %d", what, brief(f), e, want)
	}
}

// isNothing reports whether nothing was found.
func isNothing(f api.PlFound) bool {
	return net.Same(f.Net, api.Net{}) && f.Nodes == nil && f.Devices == nil
}

// sameDevices reports whether two lists of devices are equal.
func sameDevices(a, b []api.PlDevice) bool {
	return slices.EqualFunc(a, b, func(c, d api.PlDevice) bool {
		return c.Elem == d.Elem && c.Edges == d.Edges && slices.Equal(c.Cells, d.Cells)
	})
}

func sameFound(a, b api.PlFound) bool {
	return net.Same(a.Net, b.Net) && slices.Equal(a.Nodes, b.Nodes) && sameDevices(a.Devices, b.Devices)
}

func sameMap(a, b api.PlMap) bool {
	return slices.Equal(a.Nodes, b.Nodes) && slices.Equal(a.Elems, b.Elems) && slices.Equal(a.Flips, b.Flips)
}

// identity is the map of a net to itself that changes nothing.
func identity(n api.Net) api.PlMap {
	var m api.PlMap
	for i := range n.Nodes + 1 {
		m.Nodes = append(m.Nodes, i)
	}
	for i := range n.Elems {
		m.Elems, m.Flips = append(m.Elems, i), append(m.Flips, false)
	}
	return m
}

// areAlike compares two nets, and holds the map against Accept.
func areAlike(t *testing.T, a, b api.Net) bool {
	t.Helper()
	m, is, e := plan.Compare(a, b)
	if e != api.OK {
		t.Fatalf("Compare of %s and %s = %d", brief(a), brief(b), e)
	}
	if !is {
		if !sameMap(m, api.PlMap{}) {
			t.Errorf("Compare of %s and %s = %v, false", brief(a), brief(b), m)
		}
		return false
	}
	if at, e := plan.Accept(a, b, m); at != 0 || e != api.OK {
		t.Errorf("Accept of %s and %s, %v = %d, %d", brief(a), brief(b), m, at, e)
	}
	return true
}

// numbers gives the same numbers in each run.
type numbers struct{ state uint64 }

func newNumbers() *numbers {
	return &numbers{state: 88172645463325252}
}

// below is an int from 0 to n - 1.
func (g *numbers) below(n int) int {
	g.state ^= g.state << 13
	g.state ^= g.state >> 7
	g.state ^= g.state << 17
	return int(g.state % uint64(n))
}

// order is the numbers from 0 to n - 1, in any order.
func (g *numbers) order(n int) []int {
	var list []int
	for i := range n {
		list = slices.Insert(list, g.below(i+1), i)
	}
	return list
}

// one is one of a list.
func one[T any](g *numbers, list ...T) T {
	return list[g.below(len(list))]
}
