package plan_test

import (
	"math"
	"slices"
	"testing"

	"pentode/api"
	"pentode/plan"
)

// ring is a ring of diffusion, one cell wide, from 5 5 to 10 10.
const ring = "diff 5 5 6 1, diff 5 10 6 1, diff 5 5 1 6, diff 10 5 1 6"

// isGuarded holds the result of Guarded for cells, which are separated by commas, against what it has to be.
func isGuarded(t *testing.T, what string, l api.PlLayout, node int, list string, want bool) {
	t.Helper()
	for _, c := range cells(list) {
		if is, e := plan.Guarded(l, c, node); is != want || e != api.OK {
			t.Errorf("%s: Guarded of %v by %d = %t, %d", what, c, node, is, e)
		}
	}
}

func TestP9_4Guarded(t *testing.T) {
	l := layout(ring, "0 diff 5 5")
	isGuarded(t, "a ring", l, 0, "6 6, 9 9, 7 8", true)
	isGuarded(t, "a ring", l, 0, "4 7, 11 7, 7 4, 7 11, 1 1, 30 30, 0 0, 31 31, 0 7, 31 7, 7 0, 7 31", false)
	isGuarded(t, "a cell of the ring itself, beside the outside", l, 0, "5 5, 5 7, 10 10", false)
	l = layout(ring+", metal 20 20 1 1", "0 diff 5 5, a metal 20 20")
	isGuarded(t, "another node", l, 1, "6 6, 7 8, 20 20", false)
	// Its corners need not be there: neighbours do not go across.
	l = layout("diff 6 5 4 1, diff 6 10 4 1, diff 5 6 1 4, diff 10 6 1 4", "a diff 6 5, a diff 6 10, a diff 5 6, a diff 10 6")
	isGuarded(t, "a ring without corners", l, 1, "6 6, 9 9", true)
	isGuarded(t, "a ring without corners", l, 1, "5 5, 10 10", false)
	isGuarded(t, "a ring without corners", l, 0, "6 6, 7 7", false)
	l.Labels = l.Labels[:3]
	isGuarded(t, "a ring of which a side is another node", l, 1, "6 6, 7 7", false)
	// A gap, or a channel, is no diffusion of the node.
	isGuarded(t, "a gap", layout("diff 5 5 3 1, diff 9 5 2 1, diff 5 10 6 1, diff 5 5 1 6, diff 10 5 1 6", ""), 1, "6 6, 7 7", false)
	isGuarded(t, "a gate across", layout(ring+", poly 8 4 1 3", "a diff 5 5, a diff 10 10"), 1, "6 6, 7 7", false)
	isGuarded(t, "metal", layout("metal 5 5 6 1, metal 5 10 6 1, metal 5 5 1 6, metal 10 5 1 6", ""), 1, "6 6, 7 7", false)
	// In the middle of diffusion one cannot go anywhere; at the border one is there already.
	l = layout("diff 0 0 9 9", "")
	isGuarded(t, "diffusion all around", l, 1, "1 1, 7 7, 4 2", true)
	isGuarded(t, "diffusion all around", l, 1, "0 0, 4 0, 0 4, 8 8, 8 4", false)
	isGuarded(t, "all of the plane", layout("diff 0 0 32 32", ""), 1, "1 1, 30 30, 15 2", true)
	isGuarded(t, "all of the plane", layout("diff 0 0 32 32", ""), 1, "0 0, 31 30, 15 31", false)
	isGuarded(t, "all of the plane", layout("diff 0 0 32 32", ""), 0, "1 1", false)
	isGuarded(t, "nothing", api.PlLayout{Tech: tech()}, 0, "1 1", false)
}

func TestP9_4GuardedErrors(t *testing.T) {
	l := layout(ring+", metal 20 20 1 1", "0 diff 5 5")
	for _, n := range []int{-1, 32, math.MaxInt, math.MinInt} {
		for _, c := range []api.PlCell{{X: n}, {Y: n}, {X: n, Y: n}} {
			if is, e := plan.Guarded(l, c, 0); is || e != api.ErrRange {
				t.Errorf("Guarded of %v = %t, %d", c, is, e)
			}
		}
	}
	for node, want := range map[int]api.Errno{0: api.OK, 1: api.OK, 2: api.ErrRange, -1: api.ErrRange, math.MaxInt: api.ErrRange, math.MinInt: api.ErrRange} {
		if is, e := plan.Guarded(l, api.PlCell{X: 6, Y: 6}, node); is != (node == 0) || e != want {
			t.Errorf("Guarded by %d = %t, %d", node, is, e)
		}
	}
	// Errors of Extract are none of Guarded.
	l = layout(ring+", poly 20 20 1 1, mark 20 20 1 1", "")
	isGuarded(t, "a resistor without ends", l, 1, "6 6", true)
}

func TestP9_4RandomGuards(t *testing.T) {
	g := newNumbers()
	count := map[bool]int{}
	for range 150 {
		l := g.layout()
		left, top := g.below(9), g.below(9)
		l.Rects = append(l.Rects, moved(layout(ring, "").Rects, left-5, top-5)...)
		if g.below(3) == 0 {
			l.Labels = nil
		}
		if _, _, e := plan.Check(l); e != api.OK {
			continue
		}
		chart, e := chartOf(l)
		if e != api.OK {
			continue
		}
		for range 25 {
			x, y, node := left+g.below(7), top+g.below(7), g.below(len(chart.names)+1)
			if corner, is := chart.nodes[spot{api.LyDiff, left, top}]; is && g.below(4) > 0 {
				node = corner
			}
			want := chart.isGuarded(x, y, node)
			count[want]++
			if is, e := plan.Guarded(l, api.PlCell{X: x, Y: y}, node); is != want || e != api.OK {
				t.Fatalf("Guarded of %v, %d, %d, %d = %t, %d", l, x, y, node, is, e)
			}
		}
	}
	if count[true] < 200 || count[false] < 200 {
		t.Errorf("only %v cells", count)
	}
}

func TestP9_4Matched(t *testing.T) {
	l := layout("diff 0 0 5 2, poly 2 0 1 2, diff 20 0 5 1, poly 22 0 1 1, diff 10 4 4 2, poly 12 4 1 2, diff 20 4 2 5, poly 20 6 2 1, "+
		"poly 0 20 1 4, mark 0 21 1 2, poly 5 20 1 4, mark 5 21 1 2, poly 0 28 4 1, mark 1 28 2 1", "")
	f, e := plan.Extract(l)
	if e != api.OK || len(f.Devices) != 7 {
		t.Fatalf("Extract = %v, %d", f, e)
	}
	// The devices are at 2 0, 22 0, 12 4, 20 6; 0 21, 5 21, 1 28.
	for a := range 7 {
		for b := range 7 {
			want := a == b || slices.Contains([][2]int{{0, 2}, {4, 5}}, [2]int{min(a, b), max(a, b)})
			if is, e := plan.Matched(l, a, b); is != want || e != api.OK {
				t.Errorf("Matched of %d and %d = %t, %d", a, b, is, e)
			}
		}
	}
	for _, n := range []int{-1, 7, math.MaxInt, math.MinInt} {
		for _, pair := range [][2]int{{n, 0}, {0, n}, {n, n}} {
			if is, e := plan.Matched(l, pair[0], pair[1]); is || e != api.ErrRange {
				t.Errorf("Matched of %v = %t, %d", pair, is, e)
			}
		}
	}
	if is, e := plan.Matched(api.PlLayout{Tech: tech()}, 0, 0); is || e != api.ErrRange {
		t.Errorf("Matched of nothing = %t, %d", is, e)
	}
}

func TestP9_4MatchedForms(t *testing.T) {
	for _, c := range []struct {
		rects string
		want  bool
	}{
		// A transistor of two cells and a resistor of two cells.
		{"diff 0 0 3 2, poly 1 0 1 2, poly 9 0 1 4, mark 9 1 1 2", false},
		// Both turned, or mirrored, is not moved; as many cells and edges are not enough.
		{"diff 0 0 4 1, poly 1 0 2 1, diff 9 0 1 4, poly 9 1 1 2", false},
		{"poly 0 0 4 1, poly 2 1 2 1, mark 1 0 2 1, mark 2 1 1 1, poly 9 0 4 1, poly 9 1 2 1, mark 10 0 2 1, mark 10 1 1 1", false},
		{"poly 0 0 4 1, poly 2 1 1 1, mark 1 0 2 1, mark 2 1 1 1, poly 9 5 4 1, poly 11 6 1 1, mark 10 5 2 1, mark 11 6 1 1", true},
		// The other one lies more to the left; what is beside does not count.
		{"diff 9 0 4 1, poly 10 0 1 1, diff 0 8 3 1, poly 1 8 1 1, diff 20 20 9 9", true},
		{"diff 0 0 3 1, poly 1 0 1 1, diff 9 0 2 1, poly 10 0 1 1", true},
		{"diff 0 0 4 1, poly 1 0 2 1, diff 9 0 3 1, poly 10 0 1 1", false},
	} {
		for _, pair := range [][2]int{{0, 1}, {1, 0}} {
			if is, e := plan.Matched(layout(c.rects, ""), pair[0], pair[1]); is != c.want || e != api.OK {
				t.Errorf("Matched of %v in %s = %t, %d", pair, c.rects, is, e)
			}
		}
	}
}

// moves reports whether a set of cells becomes another one by any move.
func moves(a, b []api.PlCell) bool {
	for x := -31; x < 32; x++ {
		for y := -31; y < 32; y++ {
			isMiss := func(c api.PlCell) bool { return !slices.Contains(b, api.PlCell{X: c.X + x, Y: c.Y + y}) }
			if len(a) == len(b) && !slices.ContainsFunc(a, isMiss) {
				return true
			}
		}
	}
	return false
}

func TestP9_4RandomMatches(t *testing.T) {
	g := newNumbers()
	count := map[bool]int{}
	for range 1500 {
		l := g.layout()
		f, e := plan.Extract(l)
		if e != api.OK {
			continue
		}
		for a := range f.Devices {
			for b := range a {
				d, o := f.Devices[a], f.Devices[b]
				want := f.Net.Elems[d.Elem].Kind == f.Net.Elems[o.Elem].Kind && moves(d.Cells, o.Cells)
				count[want]++
				if is, e := plan.Matched(l, a, b); is != want || e != api.OK {
					t.Fatalf("Matched of %v, %d, %d = %t, %d", l, a, b, is, e)
				}
			}
		}
	}
	if count[true] < 50 || count[false] < 50 {
		t.Errorf("only %v pairs", count)
	}
}
