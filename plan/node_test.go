package plan_test

import (
	"math"
	"slices"
	"strconv"
	"strings"
	"testing"

	"pentode/api"
	"pentode/plan"
)

// nodeAt is the number of the node at a place, or -1 if there is no place.
func nodeAt(t *testing.T, l api.PlLayout, place string) int {
	t.Helper()
	w := strings.Fields(place)
	n := ints(w)
	node, e := plan.Node(l, slices.Index(layerNames, w[0]), api.PlCell{X: n[1], Y: n[2]})
	switch {
	case e == api.ErrNone && node == 0:
		return -1
	case e != api.OK:
		t.Fatalf("Node at %s = %d, %d", place, node, e)
	}
	return node
}

// hasNodes holds the nodes at places, which are separated by commas, against numbers.
func hasNodes(t *testing.T, l api.PlLayout, places string, want ...int) {
	t.Helper()
	for i, place := range strings.Split(places, ",") {
		if got := nodeAt(t, l, place); got != want[i] {
			t.Errorf("the node at %s is %d, not %d", place, got, want[i])
		}
	}
}

func TestP9_2Places(t *testing.T) {
	l := layout("diff 0 0 5 1, poly 2 0 1 3, poly 2 4 6 1, mark 4 4 2 1, mark 9 9 1 1, metal 0 6 1 1, cut 9 0 1 1, top 0 7 1 1, via 9 1 1 1", "")
	hasNodes(t, l, "diff 0 0, diff 1 0, diff 3 0, diff 4 0", 1, 1, 2, 2)
	hasNodes(t, l, "poly 2 0, poly 2 2, poly 2 4, poly 3 4, poly 6 4, poly 7 4", 3, 3, 4, 4, 5, 5)
	hasNodes(t, l, "metal 0 6, top 0 7", 6, 7)
	hasNodes(t, l, "diff 2 0, diff 5 0, diff 0 1, poly 2 3, poly 4 4, poly 5 4, poly 0 0", -1, -1, -1, -1, -1, -1, -1)
	hasNodes(t, l, "mark 9 9, mark 4 4, cut 9 0, via 9 1, metal 0 7, top 0 6, none 0 0", -1, -1, -1, -1, -1, -1, -1)
	for _, n := range []int{-1, 0, 1, 2, 8, 32, math.MaxInt, math.MinInt} {
		for _, c := range []api.PlCell{{X: n, Y: 33}, {X: -1, Y: n}, {X: n, Y: -1}, {X: 32, Y: n}} {
			for _, layer := range []int{n, 1, 2} {
				if node, e := plan.Node(l, layer, c); node != 0 || e != api.ErrNone {
					t.Errorf("Node of %d, %v = %d, %d", layer, c, node, e)
				}
			}
		}
	}
}

func TestP9_2Touching(t *testing.T) {
	// Corners do not touch, nor do places of one cell without a contact.
	hasNodes(t, layout("metal 0 0 1 1, metal 1 1 1 1, metal 1 2 1 1", ""), "metal 0 0, metal 1 1, metal 1 2", 1, 2, 2)
	all := "metal 0 0 1 1, top 0 0 1 1, "
	hasNodes(t, layout(all+"diff 0 0 1 1", ""), "diff 0 0, metal 0 0, top 0 0", 1, 2, 3)
	hasNodes(t, layout(all+"diff 0 0 1 1, cut 0 0 1 1", ""), "diff 0 0, metal 0 0, top 0 0", 1, 1, 2)
	hasNodes(t, layout(all+"diff 0 0 1 1, via 0 0 1 1", ""), "diff 0 0, metal 0 0, top 0 0", 1, 2, 2)
	hasNodes(t, layout(all+"diff 0 0 1 1, cut 0 0 1 1, via 0 0 1 1", ""), "diff 0 0, metal 0 0, top 0 0", 1, 1, 1)
	hasNodes(t, layout(all+"poly 0 0 1 1, cut 0 0 1 1", ""), "poly 0 0, metal 0 0, top 0 0", 1, 1, 2)
	hasNodes(t, layout("poly 0 0 1 1, top 0 0 1 1, cut 0 0 1 1, via 0 0 1 1", ""), "poly 0 0, top 0 0", 1, 2)
	hasNodes(t, layout("diff 0 0 1 1, top 0 0 1 1, cut 0 0 1 1, via 0 0 1 1", ""), "diff 0 0, top 0 0", 1, 2)
	// A contact connects one cell alone, not its neighbours; its own cells are no wire.
	hasNodes(t, layout("metal 0 0 1 1, poly 1 0 1 1, cut 0 0 2 1", ""), "poly 1 0, metal 0 0", 1, 2)
	// In the channel a cut connects poly; a resistor cell has no place that it could connect.
	hasNodes(t, layout("diff 0 0 3 1, poly 1 0 1 1, metal 1 0 1 1, cut 1 0 1 1", ""), "diff 0 0, diff 2 0, poly 1 0, metal 1 0", 1, 2, 3, 3)
	hasNodes(t, layout("poly 0 0 3 1, mark 1 0 1 1, metal 1 0 1 1, cut 1 0 1 1", ""), "poly 0 0, poly 2 0, metal 1 0", 1, 2, 3)
}

func TestP9_2Numbers(t *testing.T) {
	// Groups without names are numbered by their first layer, and then by their first cell on this layer.
	rects := "metal 9 0 1 1, metal 0 5 4 1, poly 3 5 1 3, cut 3 5 1 1, poly 9 4 1 1, poly 8 9 1 1, diff 20 20 1 1, top 0 0 1 1"
	places := "diff 20 20, poly 9 4, metal 0 5, poly 8 9, metal 9 0, top 0 0"
	hasNodes(t, layout(rects, ""), places, 1, 2, 3, 4, 5, 6)
	// Those with names are before them, in the order of the labels.
	l := layout(rects, "z top 0 0, 0 metal 9 0, b poly 3 7, z poly 8 9, b metal 1 5")
	hasNodes(t, l, places, 3, 4, 2, 1, 0, 1)
	if f, e := plan.Extract(l); e != api.OK || !slices.Equal(f.Nodes, []string{"z", "b", "n3", "n4"}) {
		t.Errorf("Extract = %v, %d", f, e)
	}
	// All that is named 0 is the ground; 00 is another node. A label may have the name that another node gets by its number.
	l = layout("metal 0 0 1 1, metal 2 0 1 1, metal 4 0 1 1, metal 6 0 1 1, metal 8 0 1 1", "n3 metal 4 0, 0 metal 8 0, 0 metal 0 0, 00 metal 2 0")
	hasNodes(t, l, "metal 0 0, metal 2 0, metal 4 0, metal 6 0, metal 8 0", 0, 2, 1, 3, 0)
	if f, e := plan.Extract(l); e != api.OK || !slices.Equal(f.Nodes, []string{"n3", "00", "n3"}) || f.Net.Nodes != 3 {
		t.Errorf("Extract = %v, %d", f, e)
	}
	hasNodes(t, layout("metal 0 0 1 1, metal 2 0 1 1, metal 4 0 1 1", "n2 metal 2 0, n2 metal 4 0"), "metal 0 0, metal 2 0, metal 4 0", 2, 1, 1)
}

func TestP9_2NodeErrors(t *testing.T) {
	wires := "metal 0 0 3 1, metal 0 2 3 1, poly 5 0 5 1, mark 6 0 3 1, diff 0 5 3 1, poly 1 4 1 3"
	for _, c := range []struct {
		labels string
		e      api.Errno
	}{
		{"a metal 0 0, a metal 2 0, a metal 1 2", api.OK},
		{"a metal 0 0, b metal 2 0", plan.ErrShort},
		{"0 metal 0 0, b metal 2 0", plan.ErrShort},
		{"a metal 0 0, 0 metal 2 0", plan.ErrShort},
		{"a metal 0 0, a metal 0 1", api.ErrNone},
		{"a poly 7 0", api.ErrNone},
		{"a diff 1 5", api.ErrNone},
		{"a poly 1 5", api.OK},
		{"a top 0 0", api.ErrNone},
		{"a metal 0 0, b metal 2 0, c top 0 0", plan.ErrShort},
		{"a metal 0 0, c top 0 0, b metal 2 0", api.ErrNone},
	} {
		l := layout(wires, c.labels)
		// The error of the nodes comes before those of what is asked for.
		if n, e := plan.Node(l, api.LyMetal, api.PlCell{X: 1}); e != c.e || c.e != api.OK && n != 0 {
			t.Errorf("Node with %s = %d, %d", c.labels, n, e)
		}
		if c.e == api.OK {
			continue
		}
		if n, e := plan.Node(l, 0, api.PlCell{}); n != 0 || e != c.e {
			t.Errorf("Node with %s = %d, %d", c.labels, n, e)
		}
		hasError(t, c.labels, l, c.e)
		if is, e := plan.Guarded(l, api.PlCell{X: -1}, -1); is || e != c.e {
			t.Errorf("Guarded with %s = %t, %d", c.labels, is, e)
		}
		if is, e := plan.Matched(l, 0, -1); is || e != c.e {
			t.Errorf("Matched with %s = %t, %d", c.labels, is, e)
		}
	}
}

func TestP9_2TooManyNodes(t *testing.T) {
	var rects, labels []string
	for i := range 21 {
		x, y := strconv.Itoa(3*(i%10)), strconv.Itoa(i/10*2)
		rects = append(rects, "metal "+x+" "+y+" 1 1")
		labels = append(labels, "a"+strconv.Itoa(i)+" metal "+x+" "+y)
	}
	list := func(l []string) string { return strings.Join(l, ",") }
	hasError(t, "20 nodes", layout(list(rects[:20]), ""), api.OK)
	hasError(t, "20 named nodes", layout(list(rects[:20]), list(labels[:20])), api.OK)
	for i, l := range []api.PlLayout{
		layout(list(rects), ""), layout(list(rects), list(labels)), layout(list(rects), list(labels[:1])), layout(list(rects), "a metal 0 0, a metal 0 0"),
	} {
		for _, x := range []int{0, 1} {
			if n, e := plan.Node(l, api.LyMetal, api.PlCell{X: x}); n != 0 || e != api.ErrLong {
				t.Errorf("%d: Node = %d, %d", i, n, e)
			}
		}
		if is, e := plan.Guarded(l, api.PlCell{X: -1}, -1); is || e != api.ErrLong {
			t.Errorf("%d: Guarded = %t, %d", i, is, e)
		}
		hasError(t, "21 nodes", l, api.ErrLong)
	}
	// The ground does not count, and groups of one name count once.
	hasError(t, "20 nodes and the ground", layout(list(rects), "0 metal 0 0"), api.OK)
	hasError(t, "two groups of one name", layout(list(rects), "a metal 0 0, a metal 3 0"), api.OK)
	// Errors of labels come first.
	hasError(t, "21 nodes and a label without a place", layout(list(rects), "a poly 0 0"), api.ErrNone)
}

// The nodes of random layouts are those of the test's own definition.
func TestP9_2RandomLayouts(t *testing.T) {
	g := newNumbers()
	count := map[api.Errno]int{}
	for range 400 {
		l := g.layout()
		if _, _, e := plan.Check(l); e != api.OK {
			continue
		}
		c, want := chartOf(l)
		count[want]++
		asked := c.spots
		for range 40 {
			asked = append(asked, spot{g.below(8), g.below(20), g.below(20)})
		}
		for _, p := range asked {
			wantNode, isPlace := c.nodes[p]
			wantE := want
			if want == api.OK && !isPlace {
				wantE = api.ErrNone
			}
			if wantE != api.OK {
				wantNode = 0
			}
			if node, e := plan.Node(l, p.layer, api.PlCell{X: p.x, Y: p.y}); node != wantNode || e != wantE {
				t.Fatalf("Node of %v, %v = %d, %d, not %d, %d", l, p, node, e, wantNode, wantE)
			}
		}
	}
	for e, least := range map[api.Errno]int{api.OK: 150, api.ErrNone: 10, plan.ErrShort: 30} {
		if count[e] < least {
			t.Errorf("only %d layouts with the error %d", count[e], e)
		}
	}
}
