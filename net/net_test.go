package net_test

import (
	"math"
	"slices"
	"testing"

	"pentode/api"
	"pentode/net"
)

func TestP3_2Unknowns(t *testing.T) {
	if l, e := net.Unknowns(each()); !slices.Equal(l, []int{2, 3, 5, 8}) || e != api.OK {
		t.Errorf("Unknowns = %v, %d", l, e)
	}
	if l, e := net.Unknowns(api.Net{Nodes: 4}); len(l) != 0 || e != api.OK {
		t.Errorf("Unknowns of no elements = %v, %d", l, e)
	}
	g := newNumbers()
	for i := range 100 {
		n := g.net(i%21, i%61)
		if l, e := net.Unknowns(n); !slices.Equal(l, carriers(n)) || e != api.OK {
			t.Fatalf("Unknowns of %v = %v, %d", n, l, e)
		}
	}
}

// changes are ways to change a net with each kind of element, none of which leaves it as it is.
func changes() []func(*api.Net) {
	return []func(*api.Net){
		func(n *api.Net) { n.Nodes = -5 },
		func(n *api.Net) { n.Elems = n.Elems[:12] },
		func(n *api.Net) { n.Elems = nil },
		func(n *api.Net) { n.Elems = append(n.Elems, api.Elem{}) },
		func(n *api.Net) { n.Elems[12].Kind = 77 },
		func(n *api.Net) { n.Elems[0].A = 77 },
		func(n *api.Net) { n.Elems[1].B = 77 },
		func(n *api.Net) { n.Elems[2].C = 77 },
		func(n *api.Net) { n.Elems[3].D = 77 },
		func(n *api.Net) { n.Elems[4].Ref = 77 },
		func(n *api.Net) { n.Elems[5].Model = 77 },
		func(n *api.Net) { n.Elems[6].Val = "6/1" },
		func(n *api.Net) { n.Models = n.Models[:1] },
		func(n *api.Net) { n.Models = append(n.Models, api.Model{}) },
		func(n *api.Net) { n.Models[0], n.Models[1] = n.Models[1], n.Models[0] },
		func(n *api.Net) { n.Models[1].Kind = 3 },
		func(n *api.Net) { n.Models[1].Kp = "2/1" },
		func(n *api.Net) { n.Models[1].Vt = "" },
		func(n *api.Net) { n.Models[0].Breaks[0] = "1" },
		func(n *api.Net) { n.Models[0].Breaks = nil },
		func(n *api.Net) { n.Models[0].Pieces[1][1] = "3" },
		func(n *api.Net) { n.Models[0].Pieces[1] = n.Models[0].Pieces[1][:1] },
		func(n *api.Net) { n.Models[0].Pieces = n.Models[0].Pieces[:1] },
		func(n *api.Net) { n.Models[0].Pieces = append(n.Models[0].Pieces, nil) },
	}
}

func TestP3_2Same(t *testing.T) {
	n := each()
	if !net.Same(n, copied(n)) || !net.Same(api.Net{}, api.Net{}) {
		t.Error("a net is not the same as itself")
	}
	for i, change := range changes() {
		m := copied(n)
		change(&m)
		if net.Same(n, m) || net.Same(m, n) {
			t.Errorf("change %d: the same", i)
		}
		if !net.Same(m, copied(m)) {
			t.Errorf("change %d: not the same as itself", i)
		}
	}
	full := api.Net{Elems: []api.Elem{}, Models: []api.Model{{Breaks: []api.Val{}, Pieces: [][]api.Val{{}}}}}
	bare := api.Net{Models: []api.Model{{Pieces: [][]api.Val{nil}}}}
	if !net.Same(full, bare) || !net.Same(bare, full) || !net.Same(api.Net{Models: []api.Model{}}, api.Net{}) {
		t.Error("empty lists are not the same as nil")
	}
}

func TestP3_2With(t *testing.T) {
	for i := range each().Elems {
		n := each()
		m, e := net.With(n, i, "5/7")
		if !net.Same(n, each()) {
			t.Fatalf("With changed its argument")
		}
		want := each()
		if want.Elems[i].Val == "" {
			if e != api.ErrRange || !net.Same(m, api.Net{}) {
				t.Errorf("With of %d without a Val = %v, %d", i, m, e)
			}
			continue
		}
		want.Elems[i].Val = "5/7"
		if e != api.OK || !net.Same(m, want) {
			t.Errorf("With of %d = %v, %d", i, m, e)
		}
	}
	for _, c := range []struct {
		elem int
		v    api.Val
		e    api.Errno
	}{
		{-1, "x", api.ErrRange}, {13, "1", api.ErrRange}, {math.MaxInt, "1", api.ErrRange}, {math.MinInt, "1", api.ErrRange},
		{9, "x", api.ErrRange}, {9, "", api.ErrRange},
		{0, "x", api.ErrForm}, {0, "", api.ErrForm}, {0, digits(1001), api.ErrLong}, {0, "0", api.ErrRange}, {12, "-1", api.ErrRange},
		{3, "-1", api.OK}, {4, "0", api.OK}, {8, "-2/3", api.OK},
	} {
		if m, e := net.With(each(), c.elem, c.v); e != c.e || (e == api.OK) == net.Same(m, api.Net{}) {
			t.Errorf("With of %d, %.9s = %v, %d", c.elem, c.v, m, e)
		}
	}
	// The net has to be valid before, even if it were afterwards.
	n := each()
	n.Elems[0].Val = "0"
	if m, e := net.With(n, 0, "1"); e != api.ErrRange || !net.Same(m, api.Net{}) {
		t.Errorf("With of a net that is not valid = %v, %d", m, e)
	}
	n.Elems[0].Val = "x"
	if _, e := net.With(n, 99, "1"); e != api.ErrForm {
		t.Errorf("With of a net that is not valid = %d", e)
	}
}

// errors are those of all functions that have a net or a file, but Check.
func errors(n api.Net) map[string]api.Errno {
	l := map[string]api.Errno{}
	_, l["Unknowns"] = net.Unknowns(n)
	_, l["Incidence"] = net.Incidence(n)
	_, l["Cycles"] = net.Cycles(n)
	_, l["Loop"] = net.Loop(n, false)
	_, l["Loop of dc"] = net.Loop(n, true)
	_, l["Cut"] = net.Cut(n, false)
	_, l["Cut of dc"] = net.Cut(n, true)
	_, l["With"] = net.With(n, -1, "x")
	_, l["Order"] = net.Order(api.NtFile{Net: n})
	_, l["Print"] = net.Print(api.NtFile{Net: n})
	return l
}

func TestTheErrorOfCheckComesFirst(t *testing.T) {
	for i, change := range changes() {
		n := copied(each())
		change(&n)
		_, _, want := net.Check(n)
		if want == api.OK {
			continue
		}
		for name, e := range errors(n) {
			if e != want {
				t.Errorf("change %d: %s returns %d, not %d", i, name, e, want)
			}
		}
	}
}

func TestOtherResultsAreZero(t *testing.T) {
	n := each()
	n.Elems[12].Ref = 2
	for name, l := range map[string][]int{
		"Unknowns": first(net.Unknowns(n)), "Loop": first(net.Loop(n, true)), "Cut": first(net.Cut(n, true)),
		"Loop without one": first(net.Loop(api.Net{}, true)), "Cut without one": first(net.Cut(api.Net{}, true)),
	} {
		if len(l) != 0 {
			t.Errorf("%s = %v with an error", name, l)
		}
	}
	if l := first(net.Incidence(n)); len(l) != 0 {
		t.Errorf("Incidence = %v with an error", l)
	}
	if l := first(net.Cycles(n)); len(l) != 0 {
		t.Errorf("Cycles = %v with an error", l)
	}
	if first(net.Order(api.NtFile{Net: n})) || first(net.Print(api.NtFile{Net: n})) != "" {
		t.Error("Order or Print have a result with an error")
	}
}

func first[T any](x T, _ api.Errno) T { return x }
