package plan_test

import (
	"slices"
	"testing"

	"pentode/api"
	"pentode/plan"
)

// The examples of the chapter, row by row.
func TestExamplesOfLayouts(t *testing.T) {
	l := transistor()
	f := isFound(t, "the transistor", l, "d s g", []api.Elem{{Kind: api.ElM, A: 1, B: 2, C: 3}}, square("4", "1"))
	if !sameDevices(f.Devices, []api.PlDevice{{Elem: 0, Edges: 4, Cells: cells("2 0, 2 1")}}) {
		t.Errorf("devices: %v", f.Devices)
	}
	if c, e := plan.Cells(l, api.LyPoly); !slices.Equal(c, cells("2 0, 2 1, 2 2")) || e != api.OK {
		t.Errorf("Cells = %v, %d", c, e)
	}
	if node, e := plan.Node(l, api.LyDiff, api.PlCell{X: 1, Y: 1}); node != 1 || e != api.OK {
		t.Errorf("Node = %d, %d", node, e)
	}
	if node, e := plan.Node(l, api.LyDiff, api.PlCell{X: 2, Y: 0}); node != 0 || e != api.ErrNone {
		t.Errorf("Node = %d, %d", node, e)
	}
	f = isFound(t, "the resistor", resistor(), "a b", []api.Elem{{Kind: api.ElR, A: 1, B: 2, Val: "40"}})
	if !sameDevices(f.Devices, []api.PlDevice{{Elem: 0, Edges: 2, Cells: cells("1 0, 2 0, 3 0, 4 0")}}) {
		t.Errorf("devices: %v", f.Devices)
	}
}

func TestExamplesOfMaps(t *testing.T) {
	a := api.Net{Nodes: 2, Elems: []api.Elem{{Kind: api.ElR, A: 1, B: 2, Val: "1"}, {Kind: api.ElR, A: 2, B: 0, Val: "2"}}}
	b := api.Net{Nodes: 2, Elems: []api.Elem{{Kind: api.ElR, A: 0, B: 1, Val: "2"}, {Kind: api.ElR, A: 2, B: 1, Val: "1"}}}
	want := api.PlMap{Nodes: []int{0, 2, 1}, Elems: []int{1, 0}, Flips: []bool{false, true}}
	if m, is, e := plan.Compare(a, b); !sameMap(m, want) || !is || e != api.OK {
		t.Errorf("Compare = %v, %t, %d", m, is, e)
	}
	if areAlike(t, read(t, "r a 1 0 1"), read(t, "r a 1 0 2")) {
		t.Error("a resistor 1 is like a resistor 2")
	}
	want.Flips[1] = false
	if at, e := plan.Accept(a, b, want); at != 1 || e != plan.ErrUnlike {
		t.Errorf("Accept = %d, %d", at, e)
	}
}

// The examples of the whole document that are about this layer.
func TestExamplesOfTheDocument(t *testing.T) {
	wide := layout("diff 0 0 5 2, poly 2 0 1 3", "")
	isFound(t, "5 by 2 cells", wide, "n1 n2 n3", []api.Elem{{Kind: api.ElM, A: 1, B: 2, C: 3}}, square("4", "1"))
	one := layout("diff 0 0 3 1, poly 1 0 1 1", "")
	isFound(t, "a square transistor", one, "n1 n2 n3", []api.Elem{{Kind: api.ElM, A: 1, B: 2, C: 3}}, square("2", "1"))
	a := read(t, "v s 1 0 5", "r a 1 2 1", "r b 2 0 2")
	if !areAlike(t, a, read(t, "r x low 0 2", "r y low in 1", "v z in 0 5")) {
		t.Error("names and the order of lines make a difference")
	}
	if areAlike(t, a, read(t, "v s 0 1 5", "r a 1 2 1", "r b 2 0 2")) {
		t.Error("the direction of a source makes no difference")
	}
}
