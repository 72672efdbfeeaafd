package plan_test

import (
	"slices"

	"pentode/api"
)

// stamps are what random layouts are made of: a transistor, one with a single end, resistors, wires that cross, contacts, a ring.
var stamps = []string{
	"diff 0 1 5 2, poly 2 0 1 4",
	"diff 0 1 5 1, poly 2 0 1 3",
	"diff 0 1 3 2, poly 2 0 1 4",
	"poly 0 0 6 1, mark 1 0 4 1",
	"poly 0 0 2 6, mark 0 2 2 2",
	"poly 0 0 1 5, poly 0 4 5 1, mark 0 2 3 3",
	"metal 0 1 5 1, top 2 0 1 4",
	"metal 0 0 4 1, top 0 0 3 1",
	"metal 0 0 1 4, cut 0 3 1 1, poly 0 3 1 1",
	"metal 0 0 3 1, top 2 0 1 3, via 2 0 1 1",
	"diff 0 0 2 1, metal 0 0 2 2, cut 1 0 1 1",
	"diff 0 0 5 1, diff 0 4 5 1, diff 0 0 1 5, diff 4 0 1 5",
	"diff 0 0 6 6",
}

// moved are rectangles, each moved by the same X and Y.
func moved(rects []api.PlRect, x, y int) []api.PlRect {
	list := slices.Clone(rects)
	for i := range list {
		list[i].X += x
		list[i].Y += y
	}
	return list
}

// inPlane reports whether rectangles are in the plane.
func inPlane(rects []api.PlRect) bool {
	return !slices.ContainsFunc(rects, func(r api.PlRect) bool { return r.X < 0 || r.Y < 0 || r.X+r.W > 32 || r.Y+r.H > 32 })
}

// layout is one that is valid but for cells that are both of the channel and of a resistor; most labels are at places.
func (g *numbers) layout() api.PlLayout {
	l := api.PlLayout{Tech: api.PlTech{
		Sheet: one(g, api.Val("10"), "1/3", "7/2"), Area: one(g, api.Val("0"), "1", "2/7"), Cross: one(g, api.Val("0"), "1/2", "3"),
		Kp: one(g, api.Val("2"), "5/9"), Vt: one(g, api.Val("1"), "-1/2", "0"),
	}}
	side := 6 + g.below(7)
	for range 1 + g.below(5) {
		list := layout(one(g, stamps...), "").Rects
		if g.below(3) == 0 {
			list = []api.PlRect{{Layer: 1 + g.below(7), W: 1 + g.below(3), H: 1 + g.below(3)}}
		}
		l.Rects = append(l.Rects, moved(list, g.below(side), g.below(side))...)
	}
	l.Rects = moved(l.Rects, g.below(9), g.below(9))
	all := spotsOf(l)
	for range g.below(5) {
		label := api.PlLabel{Name: one(g, "a", "b", "0", "n1", "2"), Layer: one(g, api.LyDiff, api.LyPoly, api.LyMetal, api.LyTop), X: g.below(20), Y: g.below(20)}
		if len(all) > 0 && g.below(20) > 0 {
			at := one(g, all...)
			label.Layer, label.X, label.Y = at.layer, at.x, at.y
		}
		l.Labels = append(l.Labels, label)
	}
	return l
}

// models are curves and square laws; some of them are equal.
func models() []api.Model {
	curve := func(break1, slope api.Val) api.Model {
		return api.Model{Kind: api.MdCurve, Breaks: []api.Val{break1}, Pieces: [][]api.Val{{"0"}, {"0", slope, "0"}}}
	}
	return []api.Model{curve("0", "1"), square("1", "1"), curve("0", "1"), square("1", "1"), square("1", "2"), curve("0", "2")}
}

// net is a valid one of few nodes, elements, kinds and values, so that much of it is alike.
func (g *numbers) net(nodes, elems int, kinds ...int) api.Net {
	n := api.Net{Nodes: nodes, Models: models()}
	node := func() int { return g.below(nodes + 1) }
	for range elems {
		e := api.Elem{Kind: one(g, kinds...), A: node(), B: node()}
		switch e.Kind {
		case api.ElE, api.ElG:
			e.C, e.D = node(), node()
		case api.ElM:
			e.C, e.Model = node(), one(g, 1, 3, 4)
		case api.ElD, api.ElQ:
			e.Model = one(g, 0, 2, 5)
		case api.ElS:
			e.Ref = g.below(2)
		}
		if !slices.Contains([]int{api.ElD, api.ElQ, api.ElM}, e.Kind) {
			e.Val = one(g, api.Val("1"), "1", "2")
		}
		n.Elems = append(n.Elems, e)
	}
	return g.referred(n)
}

// referred gives the elements that refer to another one any that they may refer to; if there is none, they become sources.
func (g *numbers) referred(n api.Net) api.Net {
	var own []int
	for i, e := range n.Elems {
		if slices.Contains([]int{api.ElL, api.ElV, api.ElE, api.ElH}, e.Kind) {
			own = append(own, i)
		}
	}
	for i, e := range n.Elems {
		switch {
		case e.Kind != api.ElF && e.Kind != api.ElH:
		case len(own) == 0:
			n.Elems[i].Kind = api.ElI
		default:
			n.Elems[i].Ref = one(g, own...)
		}
	}
	return n
}

// allKinds are those of elements.
var allKinds = []int{1, 2, 3, 4, 5, 6, 7, 8, 9, 10, 11, 12, 13}

// shuffled is a net that differs by the order of nodes, elements and models, and by exchanged ends.
func (g *numbers) shuffled(n api.Net) api.Net {
	nodes := append([]int{0}, g.order(n.Nodes)...)
	for i := range nodes[1:] {
		nodes[i+1]++
	}
	elems, models := g.order(len(n.Elems)), g.order(len(n.Models))
	m := api.Net{Nodes: n.Nodes, Elems: make([]api.Elem, len(n.Elems)), Models: make([]api.Model, len(n.Models))}
	for i, e := range n.Elems {
		e.A, e.B, e.C, e.D = nodes[e.A], nodes[e.B], nodes[e.C], nodes[e.D]
		switch e.Kind {
		case api.ElR, api.ElC, api.ElS:
			if g.below(2) == 0 {
				e.A, e.B = e.B, e.A
			}
		case api.ElM:
			if g.below(2) == 0 {
				e.A, e.B = e.B, e.A
			}
			e.Model = models[e.Model]
		case api.ElD, api.ElQ:
			e.Model = models[e.Model]
		case api.ElF, api.ElH:
			e.Ref = elems[e.Ref]
		}
		m.Elems[elems[i]] = e
	}
	for i, k := range n.Models {
		m.Models[models[i]] = k
	}
	return m
}

// changed is a net in which an element is another one, mostly a valid one.
func (g *numbers) changed(n api.Net) api.Net {
	m := n
	m.Elems = slices.Clone(n.Elems)
	if len(m.Elems) == 0 {
		return m
	}
	e := &m.Elems[g.below(len(m.Elems))]
	switch g.below(5) {
	case 0:
		e.A = g.below(n.Nodes + 1)
	case 1:
		e.A, e.B = e.B, e.A
	case 2:
		if e.Kind != api.ElM {
			e.C, e.D = e.D, e.C
		}
	case 3:
		if e.Val != "" {
			e.Val = "2"
		}
	case 4:
		return g.referred(m)
	}
	return m
}
