package plan_test

import (
	"math"
	"slices"
	"testing"

	"pentode/api"
	"pentode/net"
	"pentode/plan"
)

// isAccepted holds the results of Accept against what they have to be.
func isAccepted(t *testing.T, what string, a, b api.Net, m api.PlMap, elem int, e api.Errno) {
	t.Helper()
	if at, got := plan.Accept(a, b, m); at != elem || got != e {
		t.Errorf("Accept of %s = %d, %d, not %d, %d", what, at, got, elem, e)
	}
}

// each has elements of all kinds.
func each() api.Net {
	n := api.Net{Nodes: 4, Models: models()}
	for _, e := range []api.Elem{
		{Kind: api.ElR, Val: "1"}, {Kind: api.ElC, Val: "2"}, {Kind: api.ElL, Val: "3"}, {Kind: api.ElV, Val: "4"}, {Kind: api.ElI, Val: "5"},
		{Kind: api.ElE, C: 3, D: 4, Val: "6"}, {Kind: api.ElG, C: 3, D: 4, Val: "7"}, {Kind: api.ElF, Ref: 3, Val: "8"}, {Kind: api.ElH, Ref: 8, Val: "9"},
		{Kind: api.ElD}, {Kind: api.ElM, C: 3, Model: 1}, {Kind: api.ElQ, Model: 5}, {Kind: api.ElS, Ref: 1, Val: "10"},
	} {
		e.A, e.B = 1, 2
		n.Elems = append(n.Elems, e)
	}
	return n
}

// with is a net in which an element is changed.
func with(n api.Net, elem int, change func(e *api.Elem)) api.Net {
	m := n
	m.Elems = slices.Clone(n.Elems)
	change(&m.Elems[elem])
	return m
}

func TestP9_5Errors(t *testing.T) {
	a := each()
	id := identity(a)
	isAccepted(t, "a net and itself", a, a, id, 0, api.OK)
	isAccepted(t, "nothing", api.Net{}, api.Net{}, api.PlMap{Nodes: []int{0}}, 0, api.OK)
	isAccepted(t, "nothing, without the ground", api.Net{}, api.Net{}, api.PlMap{}, -1, api.ErrArg)
	// The errors of nets, of the first one first.
	wrong := with(a, 0, func(e *api.Elem) { e.Val = "0" })
	spare := with(a, 1, func(e *api.Elem) { e.C = 1 })
	long := api.Net{Elems: make([]api.Elem, 61)}
	for _, k := range []struct {
		a, b api.Net
		e    api.Errno
	}{{wrong, a, api.ErrRange}, {a, wrong, api.ErrRange}, {spare, wrong, api.ErrArg}, {wrong, spare, api.ErrRange}, {long, spare, api.ErrLong}, {a, long, api.ErrLong}} {
		isAccepted(t, "nets that are not valid", k.a, k.b, api.PlMap{}, -1, k.e)
		if m, is, e := plan.Compare(k.a, k.b); e != k.e || is || !sameMap(m, api.PlMap{}) {
			t.Errorf("Compare = %v, %t, %d, not %d", m, is, e, k.e)
		}
	}
	// Sizes: of the lists, and of the nets.
	more, fewer := a, a
	more.Nodes++
	fewer.Elems = fewer.Elems[:12]
	isAccepted(t, "a net with more nodes", a, more, id, -1, api.ErrArg)
	isAccepted(t, "a net with more nodes, and a map for it", a, more, identity(more), -1, api.ErrArg)
	isAccepted(t, "a net with fewer elements", a, fewer, id, -1, api.ErrArg)
	isAccepted(t, "a net with fewer elements, and a map for it", a, fewer, identity(fewer), -1, api.ErrArg)
	for i, change := range []func(m *api.PlMap){
		func(m *api.PlMap) { m.Nodes = m.Nodes[:4] }, func(m *api.PlMap) { m.Nodes = append(m.Nodes, 5) }, func(m *api.PlMap) { m.Nodes = nil },
		func(m *api.PlMap) { m.Elems = m.Elems[:12] }, func(m *api.PlMap) { m.Elems = append(m.Elems, 13) }, func(m *api.PlMap) { m.Elems = nil },
		func(m *api.PlMap) { m.Flips = m.Flips[:12] }, func(m *api.PlMap) { m.Flips = append(m.Flips, false) }, func(m *api.PlMap) { m.Flips = nil },
	} {
		m := identity(a)
		m.Nodes[0], m.Elems[0] = 1, 1 // which is no map either
		change(&m)
		isAccepted(t, "sizes "+string(rune('0'+i)), a, a, m, -1, api.ErrArg)
	}
}

func TestP9_5NoMaps(t *testing.T) {
	a := each()
	for i, change := range []func(m *api.PlMap){
		func(m *api.PlMap) { m.Nodes[0], m.Nodes[1] = 1, 0 }, func(m *api.PlMap) { m.Nodes[0] = 1 }, func(m *api.PlMap) { m.Nodes[2] = 1 },
		func(m *api.PlMap) { m.Nodes[4] = 5 }, func(m *api.PlMap) { m.Nodes[4] = -1 }, func(m *api.PlMap) { m.Nodes[4] = 0 },
		func(m *api.PlMap) { m.Nodes[1] = math.MaxInt }, func(m *api.PlMap) { m.Nodes[1] = math.MinInt },
		func(m *api.PlMap) { m.Elems[0] = 1 }, func(m *api.PlMap) { m.Elems[3] = 13 }, func(m *api.PlMap) { m.Elems[3] = -1 },
		func(m *api.PlMap) { m.Elems[12] = math.MaxInt }, func(m *api.PlMap) { m.Elems[12] = math.MinInt },
	} {
		m := identity(a)
		m.Flips[2] = true // by which they are not alike
		change(&m)
		isAccepted(t, "no map "+string(rune('a'+i)), a, a, m, -1, api.ErrRange)
	}
}

func TestP9_5Flips(t *testing.T) {
	a := each()
	for i, e := range a.Elems {
		canFlip := slices.Contains([]int{api.ElR, api.ElC, api.ElM, api.ElS}, e.Kind)
		m := identity(a)
		m.Flips[i] = true
		isAccepted(t, "a flip without exchanged ends", a, a, m, i, plan.ErrUnlike)
		b := with(a, i, func(e *api.Elem) { e.A, e.B = e.B, e.A })
		isAccepted(t, "exchanged ends without a flip", a, b, identity(a), i, plan.ErrUnlike)
		// Both ends at one node: also then only some can be exchanged.
		loop := with(a, i, func(e *api.Elem) { e.B = e.A })
		isAccepted(t, "a loop", loop, loop, identity(a), 0, api.OK)
		if canFlip {
			isAccepted(t, "exchanged ends and a flip", a, b, m, 0, api.OK)
			isAccepted(t, "a loop and a flip", loop, loop, m, 0, api.OK)
		} else {
			isAccepted(t, "ends that cannot be exchanged", a, b, m, i, plan.ErrUnlike)
			isAccepted(t, "a loop that cannot be exchanged", loop, loop, m, i, plan.ErrUnlike)
		}
		if areAlike(t, a, b) != canFlip { // the other elements tell the ends from each other
			t.Errorf("Compare with exchanged ends of %d: not %t", i, canFlip)
		}
	}
}

func TestP9_5Differences(t *testing.T) {
	a := each()
	for _, k := range []struct {
		elem   int
		change func(e *api.Elem)
	}{
		{0, func(e *api.Elem) { e.Val = "2" }},
		{0, func(e *api.Elem) { e.Kind = api.ElC }},
		{0, func(e *api.Elem) { e.A = 3 }},
		{4, func(e *api.Elem) { e.B = 0 }},
		{5, func(e *api.Elem) { e.C = 0 }},
		{5, func(e *api.Elem) { e.D = 0 }},
		{6, func(e *api.Elem) { e.C, e.D = e.D, e.C }},
		{6, func(e *api.Elem) { e.Kind = api.ElE }},
		{7, func(e *api.Elem) { e.Ref = 2 }},
		{8, func(e *api.Elem) { e.Ref = 5 }},
		{9, func(e *api.Elem) { e.Model = 5 }},
		{9, func(e *api.Elem) { e.Kind = api.ElQ }},
		{10, func(e *api.Elem) { e.C = 4 }},
		{10, func(e *api.Elem) { e.Model = 4 }},
		{11, func(e *api.Elem) { e.Model = 0 }},
		{12, func(e *api.Elem) { e.Ref = 0 }},
		{12, func(e *api.Elem) { e.Val = "11" }},
	} {
		b := with(a, k.elem, k.change)
		isAccepted(t, "a net with a difference", a, b, identity(a), k.elem, plan.ErrUnlike)
		isAccepted(t, "a net with a difference", b, a, identity(a), k.elem, plan.ErrUnlike)
		// The first one is told.
		c := with(b, 12, func(e *api.Elem) { e.Val = "99" })
		isAccepted(t, "a net with two differences", a, c, identity(a), k.elem, plan.ErrUnlike)
		if areAlike(t, a, b) {
			t.Errorf("the change of %d makes no difference", k.elem)
		}
	}
	// Models are compared part by part, whatever their numbers are.
	for _, k := range []struct{ elem, model int }{{9, 2}, {10, 3}} {
		b := with(a, k.elem, func(e *api.Elem) { e.Model = k.model })
		isAccepted(t, "an equal model with another number", a, b, identity(a), 0, api.OK)
		if !areAlike(t, a, b) {
			t.Error("the numbers of models make a difference")
		}
	}
	b := a
	b.Models = b.Models[:0]
	b.Elems = slices.Concat(a.Elems[:9], a.Elems[12:])
	c := b
	c.Models = models()
	isAccepted(t, "nets one of which has models that none uses", b, c, identity(b), 0, api.OK)
	if !areAlike(t, b, c) {
		t.Error("models that none uses make a difference")
	}
}

func TestP9_5PartsOfModels(t *testing.T) {
	curve := func(breaks []api.Val, pieces ...[]api.Val) api.Model {
		return api.Model{Kind: api.MdCurve, Breaks: breaks, Pieces: pieces}
	}
	vals := func(l ...api.Val) []api.Val { return l }
	list := []api.Model{
		curve(nil, vals("0", "1")), curve(nil, vals("0", "1", "0")), curve(nil, vals("0", "2")), curve(vals("0"), vals("0", "1"), vals("0", "1")),
		curve(vals("1"), vals("0", "1"), vals("0", "1")), curve(vals("0"), vals("0", "1"), vals("0", "2")),
		square("1", "1"), square("1", "2"), square("2", "1"),
	}
	for i, k := range list {
		for j, l := range list {
			kinds := map[int]int{api.MdCurve: api.ElD, api.MdSquare: api.ElM}
			a := api.Net{Models: []api.Model{k}, Elems: []api.Elem{{Kind: kinds[k.Kind]}}}
			b := api.Net{Models: []api.Model{l}, Elems: []api.Elem{{Kind: kinds[l.Kind]}}}
			elem, e := 0, plan.ErrUnlike
			if i == j {
				e = api.OK
			}
			isAccepted(t, "models", a, b, identity(a), elem, e)
			if areAlike(t, a, b) != (i == j) {
				t.Errorf("Compare with the models %d and %d", i, j)
			}
		}
	}
}

// Accept of random maps is what the test's own definition says.
func TestP9_5RandomMaps(t *testing.T) {
	g := newNumbers()
	count := map[bool]int{}
	for range 4000 {
		a := g.net(g.below(4), g.below(6), allKinds...)
		if _, _, e := net.Check(a); e != api.OK {
			t.Fatalf("%v is not valid: %d", a, e)
		}
		b := g.shuffled(a)
		m, is, _ := plan.Compare(a, b)
		if !is {
			t.Fatalf("%v is not like %v", a, b)
		}
		if g.below(2) == 0 {
			b = g.changed(b)
		}
		if g.below(3) == 0 && len(m.Elems) > 0 {
			i, k := g.below(len(m.Elems)), g.below(len(m.Elems))
			m.Elems[i], m.Elems[k] = m.Elems[k], m.Elems[i]
			m.Flips[i] = !m.Flips[i]
		}
		if g.below(3) == 0 && a.Nodes > 0 {
			i, k := 1+g.below(a.Nodes), 1+g.below(a.Nodes)
			m.Nodes[i], m.Nodes[k] = m.Nodes[k], m.Nodes[i]
		}
		want, wantE := unlike(a, b, m), plan.ErrUnlike
		count[want < 0]++
		if want < 0 {
			want, wantE = 0, api.OK
		}
		isAccepted(t, "a random map", a, b, m, want, wantE)
	}
	if count[true] < 500 || count[false] < 500 {
		t.Errorf("only %v", count)
	}
}
