package plan_test

import (
	"slices"
	"testing"

	"pentode/api"
	"pentode/net"
	"pentode/plan"
)

// movedLabels are labels, each moved by the same X and Y.
func movedLabels(labels []api.PlLabel, x, y int) []api.PlLabel {
	list := slices.Clone(labels)
	for i := range list {
		list[i].X += x
		list[i].Y += y
	}
	return list
}

// isSameCircuit reports whether two layouts have the same circuit, with all cells moved by the same X and Y, or the same error.
func isSameCircuit(a, b api.PlLayout, x, y int) bool {
	f, e := plan.Extract(a)
	g, d := plan.Extract(b)
	for i := range f.Devices {
		for k := range f.Devices[i].Cells {
			f.Devices[i].Cells[k].X += x
			f.Devices[i].Cells[k].Y += y
		}
	}
	return e == d && sameFound(f, g)
}

// cut is rectangles of which one that has more than a cell is cut into two.
func (g *numbers) cut(rects []api.PlRect) []api.PlRect {
	list := slices.Clone(rects)
	at := g.below(len(list))
	r := list[at]
	first, second := r, r
	switch {
	case r.W > 1:
		first.W = 1 + g.below(r.W-1)
		second.X, second.W = r.X+first.W, r.W-first.W
	case r.H > 1:
		first.H = 1 + g.below(r.H-1)
		second.Y, second.H = r.Y+first.H, r.H-first.H
	}
	list[at] = second
	return append(list, first)
}

func TestP9_9SameCircuits(t *testing.T) {
	g := newNumbers()
	count := map[api.Errno]int{}
	for range 1500 {
		l := g.layout()
		f, e := plan.Extract(l)
		count[e]++
		if part, at, e := net.Check(f.Net); e != api.OK {
			t.Fatalf("the net of %v is not valid: %d, %d, %d", l, part, at, e)
		}
		x, y := g.below(30)-9, g.below(30)-9
		other := l
		other.Rects, other.Labels = moved(l.Rects, x, y), movedLabels(l.Labels, x, y)
		if _, _, e := plan.Check(other); inPlane(other.Rects) && e != api.ErrRange && !isSameCircuit(l, other, x, y) {
			t.Errorf("%v has another circuit when it is moved by %d, %d", l, x, y)
		}
		other = l
		other.Rects = nil
		for _, i := range g.order(len(l.Rects)) {
			other.Rects = append(other.Rects, l.Rects[i])
		}
		if !isSameCircuit(l, other, 0, 0) {
			t.Errorf("%v has another circuit in another order", l)
		}
		other.Rects = append(other.Rects, one(g, l.Rects...))
		if !isSameCircuit(l, other, 0, 0) {
			t.Errorf("%v has another circuit with a rectangle twice", l)
		}
		other.Rects = g.cut(g.cut(l.Rects))
		if !isSameCircuit(l, other, 0, 0) {
			t.Errorf("%v has another circuit with rectangles that are cut", l)
		}
	}
	if count[api.OK] < 400 {
		t.Errorf("only %v", count)
	}
}

func TestP9_10Guards(t *testing.T) {
	g := newNumbers()
	guarded := 0
	for range 20 {
		l := g.layout()
		left, top := 1+g.below(9), 1+g.below(9)
		l.Rects, l.Labels = append(l.Rects, moved(layout(ring, "").Rects, left-5, top-5)...), nil
		node, e := plan.Node(l, api.LyDiff, api.PlCell{X: left, Y: top})
		if e != api.OK {
			continue
		}
		is, isWall := map[api.PlCell]bool{}, map[api.PlCell]bool{}
		for y := range 18 {
			for x := range 18 {
				c := api.PlCell{X: x, Y: y}
				is[c], e = plan.Guarded(l, c, node)
				if e != api.OK {
					t.Fatalf("Guarded of %v, %v, %d = %d", l, c, node, e)
				}
				n, e := plan.Node(l, api.LyDiff, c)
				isWall[c] = e == api.OK && n == node
				if is[c] {
					guarded++
				}
				for _, d := range []api.PlCell{{X: x - 1, Y: y}, {X: x, Y: y - 1}} {
					if d.X >= 0 && d.Y >= 0 && !isWall[c] && !isWall[d] && is[c] != is[d] {
						t.Errorf("one of %v and %v is guarded by %d in %v", c, d, node, l)
					}
				}
			}
		}
	}
	if guarded < 100 {
		t.Errorf("only %d cells are guarded", guarded)
	}
}

func TestP9_10Border(t *testing.T) {
	l := layout("diff 0 0 32 32", "")
	for i := range 32 {
		for _, c := range []api.PlCell{{X: i}, {Y: i}, {X: i, Y: 31}, {X: 31, Y: i}} {
			for _, node := range []int{0, 1} {
				if is, e := plan.Guarded(l, c, node); is || e != api.OK {
					t.Errorf("Guarded of %v by %d = %t, %d", c, node, is, e)
				}
			}
		}
	}
}
