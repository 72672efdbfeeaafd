package net_test

import (
	"slices"
	"testing"

	"pentode/api"
	"pentode/net"
)

// reached returns the nodes that are connected with one by those edges that are asked for, edge by edge until nothing is new.
func reached(n api.Net, from int, asked func(i int) bool) map[int]bool {
	all := map[int]bool{from: true}
	for size := 0; size < len(all); {
		size = len(all)
		for i, e := range n.Elems {
			if asked(i) && (all[e.A] || all[e.B]) {
				all[e.A], all[e.B] = true, true
			}
		}
	}
	return all
}

// inForest returns the edges that are in the forest of those that are asked for: the ends of each are not connected by those before it.
func inForest(n api.Net, asked func(i int) bool) map[int]bool {
	in := map[int]bool{}
	for i, e := range n.Elems {
		if asked(i) && !reached(n, e.A, func(k int) bool { return k < i && asked(k) })[e.B] {
			in[i] = true
		}
	}
	return in
}

// direction is that of an edge in the loop for another one that is not in the forest: without it the ends are not connected, and it is passed from the end that still is with B.
func direction(n api.Net, in map[int]bool, loop, edge int) int {
	if loop == edge {
		return 1
	}
	e := n.Elems[loop]
	rest := reached(n, e.B, func(k int) bool { return in[k] && k != edge })
	switch {
	case !in[edge] || rest[e.A]:
		return 0
	case rest[n.Elems[edge].A]:
		return 1
	}
	return -1
}

func isVolts(kind int, dc bool) bool {
	return kind == api.ElV || kind == api.ElE || kind == api.ElH || dc && kind == api.ElL
}

func conducts(e api.Elem, dc bool) bool {
	switch e.Kind {
	case api.ElI, api.ElG, api.ElF, api.ElM:
		return false
	case api.ElC, api.ElQ:
		return !dc
	case api.ElS:
		return e.Ref == 1
	}
	return true
}

// nets calls for nets of all sizes, most of them small ones.
func nets(seeds int, call func(n api.Net)) {
	g := newNumbers()
	for i := range seeds {
		nodes := g.below(7)
		if i%10 == 0 {
			nodes = g.below(21)
		}
		call(g.net(nodes, g.below(3+2*nodes)))
	}
	call(g.net(20, 60))
	call(g.net(0, 60))
	call(api.Net{})
	call(api.Net{Nodes: 20})
}

func TestP3_4Incidence(t *testing.T) {
	nets(300, func(n api.Net) {
		rows, e := net.Incidence(n)
		if e != api.OK || len(rows) != n.Nodes+1 {
			t.Fatalf("Incidence of %v = %v, %d", n, rows, e)
		}
		for node, row := range rows {
			var want []int
			for _, edge := range n.Elems {
				x := 0
				if edge.A == node && edge.B != node {
					x = 1
				} else if edge.B == node && edge.A != node {
					x = -1
				}
				want = append(want, x)
			}
			if !slices.Equal(row, want) {
				t.Fatalf("Incidence of %d in %v = %v, not %v", node, n, row, want)
			}
		}
	})
}

func TestP3_4Cycles(t *testing.T) {
	nets(300, func(n api.Net) {
		in := inForest(n, func(int) bool { return true })
		var want [][]int
		for i := range n.Elems {
			if in[i] {
				continue
			}
			var row []int
			for k := range n.Elems {
				row = append(row, direction(n, in, i, k))
			}
			want = append(want, row)
		}
		if rows, e := net.Cycles(n); e != api.OK || !slices.EqualFunc(rows, want, slices.Equal) {
			t.Fatalf("Cycles of %v = %v, %d, not %v", n, rows, e, want)
		}
	})
}

// A ring of all nodes, every third edge of it the other way, and a short way through it.
func TestP3_4LongLoops(t *testing.T) {
	n := api.Net{Nodes: 20}
	for i := range 20 {
		e := api.Elem{Kind: api.ElR, A: i, B: i + 1, Val: "1"}
		if i%3 == 0 {
			e.A, e.B = e.B, e.A
		}
		n.Elems = append(n.Elems, e)
	}
	n.Elems = append(n.Elems, api.Elem{Kind: api.ElR, A: 20, B: 0, Val: "1"}, api.Elem{Kind: api.ElR, A: 3, B: 9, Val: "1"})
	rows, e := net.Cycles(n)
	if e != api.OK || len(rows) != 2 {
		t.Fatalf("Cycles = %v, %d", rows, e)
	}
	for i := range 20 {
		around, short := 1, 0
		if i >= 3 && i < 9 {
			short = -1
		}
		if i%3 == 0 {
			around, short = -around, -short
		}
		if rows[0][i] != around || rows[1][i] != short {
			t.Errorf("directions of %d: %d, %d", i, rows[0][i], rows[1][i])
		}
	}
	if rows[0][20] != 1 || rows[0][21] != 0 || rows[1][20] != 0 || rows[1][21] != 1 {
		t.Errorf("directions of the last ones: %v", rows)
	}
}

func TestP3_5Loop(t *testing.T) {
	found := 0
	nets(2000, func(n api.Net) {
		for _, dc := range []bool{false, true} {
			asked := func(i int) bool { return isVolts(n.Elems[i].Kind, dc) }
			in := inForest(n, asked)
			var want []int
			for i := range n.Elems {
				if !asked(i) || in[i] {
					continue
				}
				for k := range n.Elems {
					if direction(n, in, i, k) != 0 {
						want = append(want, k)
					}
				}
				break
			}
			expected := api.OK
			if want == nil {
				expected = api.ErrNone
			} else {
				found++
			}
			if l, e := net.Loop(n, dc); e != expected || !slices.Equal(l, want) {
				t.Fatalf("Loop of %v, %v = %v, %d, not %v", n, dc, l, e, want)
			}
		}
	})
	if found < 300 {
		t.Errorf("only %d loops", found)
	}
}

func TestP3_5Cut(t *testing.T) {
	found := 0
	nets(2000, func(n api.Net) {
		for _, dc := range []bool{false, true} {
			asked := func(i int) bool { return conducts(n.Elems[i], dc) }
			ground := reached(n, 0, asked)
			var want []int
			for node := range n.Nodes + 1 {
				if ground[node] {
					continue
				}
				for other := range reached(n, node, asked) {
					want = append(want, other)
				}
				slices.Sort(want)
				break
			}
			expected := api.OK
			if want == nil {
				expected = api.ErrNone
			} else if len(want) > 1 {
				found++
			}
			if l, e := net.Cut(n, dc); e != expected || !slices.Equal(l, want) {
				t.Fatalf("Cut of %v, %v = %v, %d, not %v", n, dc, l, e, want)
			}
		}
	})
	if found < 300 {
		t.Errorf("only %d cuts", found)
	}
}

// An element of each kind, with a source beside it and another one that it refers to.
func TestP3_5Kinds(t *testing.T) {
	elems := each().Elems
	elems = append(elems, elems[12])
	elems[13].Ref = 0
	for _, e := range elems {
		e.A, e.B, e.C, e.D = 1, 0, 0, 0
		if e.Kind != api.ElS {
			e.Ref = min(e.Ref, 1)
		}
		n := each()
		n.Nodes = 2
		n.Elems = []api.Elem{e, {Kind: api.ElV, A: 2, Val: "1"}}
		beside := copied(n)
		beside.Elems = append(beside.Elems, api.Elem{Kind: api.ElV, B: 1, Val: "1"})
		for _, dc := range []bool{false, true} {
			var cut, loop []int
			if !conducts(e, dc) {
				cut = []int{1}
			}
			if isVolts(e.Kind, dc) {
				loop = []int{0, 2}
			}
			if l, e := net.Cut(n, dc); !slices.Equal(l, cut) || (e == api.ErrNone) != (cut == nil) {
				t.Errorf("Cut of %v, %v = %v, %d", n.Elems, dc, l, e)
			}
			if l, e := net.Loop(beside, dc); !slices.Equal(l, loop) || (e == api.ErrNone) != (loop == nil) {
				t.Errorf("Loop of %v, %v = %v, %d", beside.Elems, dc, l, e)
			}
		}
	}
}

func TestP3_5FromANodeToItself(t *testing.T) {
	n := api.Net{Nodes: 1, Elems: []api.Elem{{Kind: api.ElV, A: 1, Val: "1"}, {Kind: api.ElE, A: 1, B: 1, Val: "1"}, {Kind: api.ElV, A: 1, Val: "1"}}}
	if l, e := net.Loop(n, false); !slices.Equal(l, []int{1}) || e != api.OK {
		t.Errorf("Loop = %v, %d", l, e)
	}
	if rows, e := net.Cycles(n); !slices.EqualFunc(rows, [][]int{{0, 1, 0}, {-1, 0, 1}}, slices.Equal) || e != api.OK {
		t.Errorf("Cycles = %v, %d", rows, e)
	}
}

// parts is in how many parts the graph falls.
func parts(n api.Net) int {
	count := 0
	for node := range n.Nodes + 1 {
		least := true
		for other := range reached(n, node, func(int) bool { return true }) {
			least = least && other >= node
		}
		if least {
			count++
		}
	}
	return count
}

func TestP3_9Kirchhoff(t *testing.T) {
	nets(300, func(n api.Net) {
		incidence, _ := net.Incidence(n)
		loops, _ := net.Cycles(n)
		if want := len(n.Elems) - (n.Nodes + 1) + parts(n); len(loops) != want {
			t.Fatalf("%v has %d loops, not %d", n, len(loops), want)
		}
		for node, row := range incidence {
			for l, loop := range loops {
				sum := 0
				for i := range n.Elems {
					sum += row[i] * loop[i]
				}
				if sum != 0 {
					t.Fatalf("%v: node %d and loop %d have the sum %d", n, node, l, sum)
				}
			}
		}
	})
}

func TestP3_10ClosedLoops(t *testing.T) {
	nets(1000, func(n api.Net) {
		for _, dc := range []bool{false, true} {
			loop, e := net.Loop(n, dc)
			if e != api.OK {
				continue
			}
			ends := map[int]int{}
			for _, i := range loop {
				ends[n.Elems[i].A]++
				ends[n.Elems[i].B]++
				if !isVolts(n.Elems[i].Kind, dc) {
					t.Fatalf("%v: %d is in the loop %v", n, i, loop)
				}
			}
			for node, count := range ends {
				if count != 2 {
					t.Fatalf("%v: loop %v passes the node %d by %d ends", n, loop, node, count)
				}
			}
		}
	})
}

func TestP3_10Cuts(t *testing.T) {
	nets(1000, func(n api.Net) {
		for _, dc := range []bool{false, true} {
			cut, e := net.Cut(n, dc)
			if e != api.OK {
				continue
			}
			if slices.Contains(cut, 0) {
				t.Fatalf("%v: the cut %v has the ground", n, cut)
			}
			for i, edge := range n.Elems {
				if conducts(edge, dc) && slices.Contains(cut, edge.A) != slices.Contains(cut, edge.B) {
					t.Fatalf("%v: the edge %d leads out of the cut %v", n, i, cut)
				}
			}
		}
	})
}
