package plan_test

import (
	"fmt"
	"math"
	"slices"
	"strings"
	"sync"
	"testing"

	"pentode/api"
	"pentode/plan"
)

// arguments are what all functions are called with.
type arguments struct {
	layout      api.PlLayout
	layer, a, b int
	cell        api.PlCell
	x, y        api.Net
	m           api.PlMap
}

// answers are all results for some arguments, as one text.
func answers(a arguments) string {
	var all []any
	add := func(l ...any) { all = append(all, l...) }
	add(plan.Check(a.layout))
	add(plan.Cells(a.layout, a.layer))
	add(plan.Node(a.layout, a.layer, a.cell))
	add(plan.Extract(a.layout))
	add(plan.Guarded(a.layout, a.cell, a.a))
	add(plan.Matched(a.layout, a.a, a.b))
	add(plan.Accept(a.x, a.y, a.m))
	add(plan.Compare(a.x, a.y))
	return fmt.Sprint(all...)
}

// spoilt makes some of the arguments other ones, most of which are not valid.
func (a arguments) spoilt(which, w int, v api.Val) arguments {
	l := &a.layout
	switch which {
	case 0:
		l.Rects = append(l.Rects, api.PlRect{Layer: w, X: w, Y: 1, W: 1, H: w})
	case 1:
		l.Rects = append(l.Rects, api.PlRect{Layer: 2, X: w, W: w, H: 1})
	case 2:
		l.Labels = append(l.Labels, api.PlLabel{Name: string(v), Layer: 1})
	case 3:
		l.Labels = append(l.Labels, api.PlLabel{Name: "a", Layer: w, X: w, Y: w})
	case 4:
		l.Tech.Sheet, l.Tech.Area = v, v
	case 5:
		l.Tech.Kp = v
	case 6:
		l.Tech.Vt, l.Tech.Cross = v, "1"
	case 7:
		a.layer, a.cell.X = w, w
	case 8:
		a.a, a.b, a.cell.Y = w, w, w
	case 9:
		a.m.Nodes = append(a.m.Nodes, w)
	case 10:
		a.m.Nodes[len(a.m.Nodes)-1] = w
	case 11:
		a.m.Elems = slices.Repeat([]int{w}, len(a.m.Elems))
	case 12:
		a.x.Nodes, a.y.Nodes = w, w
	case 13:
		a.y.Elems = append(a.y.Elems, api.Elem{Kind: w, A: w, Ref: w, Val: v})
	case 14:
		a.x.Elems = append(a.x.Elems, api.Elem{Kind: 8, Ref: w, Val: "1"})
	case 15:
		a.x.Models[0].Pieces, a.y.Models[1].Vt = nil, v
	case 16:
		a.m.Flips = nil
	}
	return a
}

// anyArguments are of many kinds.
func anyArguments() []arguments {
	far := []int{0, 1, -1, 2, 7, 8, 20, 21, 31, 32, math.MaxInt, math.MinInt}
	odd := []api.Val{"", "1", "0", "-1/2", "x", "1/0", "\xff", digits(1000), "1/" + digits(1000), digits(1001), digits(20000), api.Val(strings.Repeat("7", 1000))}
	huge := arguments{
		layout: api.PlLayout{Tech: tech(), Rects: make([]api.PlRect, 3000), Labels: make([]api.PlLabel, 3000)},
		x:      api.Net{Elems: make([]api.Elem, 3000), Models: make([]api.Model, 3000)}, m: api.PlMap{Nodes: make([]int, 3000), Elems: make([]int, 3000)},
	}
	full := arguments{layout: api.PlLayout{Tech: tech()}, layer: 1}
	for i := range 120 {
		full.layout.Rects = append(full.layout.Rects, api.PlRect{Layer: []int{1, 3, 4, 5, 6, 7}[i%6], W: 32, H: 32})
	}
	list := []arguments{{}, huge, full}
	g := newNumbers()
	for i := range 400 {
		a := arguments{layout: g.layout(), layer: 1 + g.below(7), a: g.below(3), b: g.below(3), cell: api.PlCell{X: g.below(20), Y: g.below(20)}}
		a.x = g.net(g.below(5), g.below(9), allKinds...)
		a.y = g.shuffled(a.x)
		a.m, _, _ = plan.Compare(a.x, a.y)
		if g.below(2) == 0 {
			a.y = g.changed(a.y)
		}
		list = append(list, a.spoilt(i%20, one(g, far...), one(g, odd...)))
	}
	return list
}

func TestP9_11AnyArguments(t *testing.T) {
	list := anyArguments()
	var before, first []string
	for _, a := range list {
		before = append(before, fmt.Sprint(a))
		first = append(first, answers(a))
	}
	// Goroutines share the arguments: what changes one of them is found by the race detector, too.
	var group sync.WaitGroup
	for range 4 {
		group.Go(func() {
			for i, a := range list {
				if got := answers(a); got != first[i] {
					t.Errorf("the answers for %.200s are others", before[i])
				}
			}
		})
	}
	group.Wait()
	for i, a := range list {
		if now := fmt.Sprint(a); now != before[i] {
			t.Errorf("%.200s was changed to %.200s", before[i], now)
		}
	}
}

// wipe changes a list, also what could be behind its end.
func wipe[T any](list []T) {
	clear(list[:cap(list)])
	_ = append(list, make([]T, 3)...)
}

func TestP9_11ResultsAreNewMemory(t *testing.T) {
	a := arguments{layout: layout("diff 0 0 5 2, poly 2 0 1 3, poly 0 9 6 1, mark 1 9 4 1, top 9 9 1 1, via 0 0 1 1", "d diff 0 0, s diff 4 0"), layer: api.LyPoly, x: each()}
	a.x.Elems = a.x.Elems[:12]
	a.y, a.m = newNumbers().shuffled(a.x), identity(a.x)
	// Behind the ends of the lists is something that has to stay as well.
	a.layout.Rects, a.layout.Labels = a.layout.Rects[:5], a.layout.Labels[:1]
	a.m.Nodes, a.m.Elems, a.m.Flips = append(a.m.Nodes, 7, 8)[:5], append(a.m.Elems, 7, 8)[:12], append(a.m.Flips, true, true)[:12]
	behind := func() string {
		return fmt.Sprint(a, a.layout.Rects[:6], a.layout.Labels[:2], a.m.Nodes[:7], a.m.Elems[:14], a.m.Flips[:14], a.x.Elems[:13])
	}
	before, first := behind(), answers(a)
	for range 2 {
		c, e := plan.Cells(a.layout, a.layer)
		if e != api.OK || len(c) == 0 {
			t.Fatalf("Cells = %d", e)
		}
		wipe(c)
		f, e := plan.Extract(a.layout)
		if e != api.OK || len(f.Devices) != 2 || len(f.Net.Models) != 1 {
			t.Fatalf("Extract = %v, %d", f, e)
		}
		wipe(f.Devices[0].Cells)
		if len(f.Devices[1].Cells) != 4 || f.Devices[1].Cells[3] != (api.PlCell{X: 4, Y: 9}) {
			t.Error("devices share memory")
		}
		wipe(f.Devices[1].Cells)
		wipe(f.Devices)
		wipe(f.Nodes)
		wipe(f.Net.Elems)
		wipe(f.Net.Models)
		m, is, e := plan.Compare(a.x, a.y)
		if !is || e != api.OK {
			t.Fatalf("Compare = %t, %d", is, e)
		}
		wipe(m.Nodes)
		if m.Elems[0] == m.Elems[1] {
			t.Error("lists of a map share memory")
		}
		wipe(m.Elems)
		wipe(m.Flips)
	}
	if behind() != before || answers(a) != first {
		t.Error("results share memory with arguments, or with what is kept")
	}
}
