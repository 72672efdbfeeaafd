package plan_test

import (
	"slices"
	"testing"

	"pentode/api"
	"pentode/plan"
)

// isFirst holds the result of Compare against a map.
func isFirst(t *testing.T, a, b api.Net, want api.PlMap, wantIs bool) {
	t.Helper()
	if m, is, e := plan.Compare(a, b); !sameMap(m, want) || is != wantIs || e != api.OK {
		t.Fatalf("Compare of %s and %s = %v, %t, %d, not %v, %t", brief(a), brief(b), m, is, e, want, wantIs)
	}
}

// The first map of small nets is the first one of all maps, when all of them are gone through in their order.
func TestP9_6FirstMaps(t *testing.T) {
	g := newNumbers()
	count := map[bool]int{}
	sets := [][]int{allKinds, {api.ElR}, {api.ElR, api.ElC}, {api.ElV, api.ElF, api.ElH}, {api.ElH}, {api.ElM, api.ElS}, {api.ElG, api.ElR}, {api.ElD, api.ElM}}
	for i := range 3000 {
		set := sets[i%len(sets)]
		a := g.net(g.below(5), g.below(6), set...)
		b := g.shuffled(a)
		switch g.below(4) {
		case 0:
			b = g.changed(b)
		case 1:
			b = g.net(a.Nodes, len(a.Elems), set...)
		}
		want, is := firstMap(a, b)
		count[is]++
		isFirst(t, a, b, want, is)
	}
	if count[true] < 1000 || count[false] < 500 {
		t.Errorf("only %v", count)
	}
}

func TestP9_6Order(t *testing.T) {
	// Parallel elements go to the first ones that are left; with both ends at one node nothing is exchanged.
	a := read(t, "r a 1 2 1", "r b 1 2 1", "r c 1 2 2", "r d 1 2 1", "r e 2 2 1", "r f 1 2 1")
	isFirst(t, a, a, identity(a), true)
	b := read(t, "r c 1 2 2", "r a 2 1 1", "r e 1 1 1", "r b 1 2 1", "r d 2 1 1", "r f 1 2 1")
	isFirst(t, a, b, api.PlMap{Nodes: []int{0, 2, 1}, Elems: []int{1, 3, 0, 4, 2, 5}, Flips: []bool{false, true, true, false, false, true}}, true)
	// Elements decide before nodes: the first one goes to the first one, though the nodes would be in order otherwise.
	a = read(t, "r a 1 2 1", "r b 3 4 1")
	b = api.Net{Nodes: 4, Elems: []api.Elem{{Kind: api.ElR, A: 3, B: 4, Val: "1"}, {Kind: api.ElR, A: 1, B: 2, Val: "1"}}}
	isFirst(t, a, b, api.PlMap{Nodes: []int{0, 3, 4, 1, 2}, Elems: []int{0, 1}, Flips: []bool{false, false}}, true)
	// An element decides before the flips of those behind it, and after those before it.
	a = read(t, "r a 1 2 1", "r b 2 3 1", "r c 3 1 1")
	b = read(t, "r a 1 2 1", "r b 3 2 1", "r c 3 1 1")
	isFirst(t, a, b, api.PlMap{Nodes: []int{0, 1, 2, 3}, Elems: []int{0, 1, 2}, Flips: []bool{false, true, false}}, true)
	// Nodes that no element has come in order.
	a = api.Net{Nodes: 5, Elems: []api.Elem{{Kind: api.ElV, A: 2, B: 4, Val: "1"}}}
	b = api.Net{Nodes: 5, Elems: []api.Elem{{Kind: api.ElV, A: 5, B: 1, Val: "1"}}}
	isFirst(t, a, b, api.PlMap{Nodes: []int{0, 2, 5, 3, 1, 4}, Elems: []int{0}, Flips: []bool{false}}, true)
	isFirst(t, api.Net{Nodes: 3}, api.Net{Nodes: 3}, api.PlMap{Nodes: []int{0, 1, 2, 3}}, true)
	isFirst(t, api.Net{}, api.Net{}, api.PlMap{Nodes: []int{0}}, true)
	// The ground is no node like the others.
	isFirst(t, read(t, "r a 1 0 1", "v b 2 0 1"), read(t, "r a 1 2 1", "v b 2 0 1"), api.PlMap{}, false)
	without := api.Net{Nodes: 2, Elems: []api.Elem{{Kind: api.ElG, A: 1, B: 2, C: 1, D: 2, Val: "1"}}}
	isFirst(t, without, without, identity(without), true)
	isFirst(t, without, api.Net{Nodes: 2, Elems: []api.Elem{{Kind: api.ElG, A: 0, B: 2, C: 0, D: 2, Val: "1"}}}, api.PlMap{}, false)
	// Sizes.
	isFirst(t, api.Net{Nodes: 3}, api.Net{Nodes: 2}, api.PlMap{}, false)
	isFirst(t, api.Net{}, api.Net{Nodes: 1}, api.PlMap{}, false)
	isFirst(t, read(t, "r a 1 0 1"), read(t, "r a 1 0 1", "r b 1 0 1"), api.PlMap{}, false)
	isFirst(t, read(t, "r a 1 0 1", "r b 1 0 1"), read(t, "r a 1 0 1"), api.PlMap{}, false)
}

// bridges is a net of equal resistors.
func bridges(nodes int, pairs ...[2]int) api.Net {
	n := api.Net{Nodes: nodes}
	for _, p := range pairs {
		n.Elems = append(n.Elems, api.Elem{Kind: api.ElR, A: p[0], B: p[1], Val: "1"})
	}
	return n
}

// rings are rings of resistors, as many beside each other as told.
func rings(beside int, lengths ...int) api.Net {
	var pairs [][2]int
	nodes := 0
	for _, n := range lengths {
		for i := range n {
			pairs = append(pairs, slices.Repeat([][2]int{{nodes + 1 + i, nodes + 1 + (i+1)%n}}, beside)...)
		}
		nodes += n
	}
	return bridges(nodes, pairs...)
}

// referring are voltages that are controlled by the current of the next one, in rings; all of them are parallel.
func referring(lengths ...int) api.Net {
	n := api.Net{Nodes: 1}
	for _, length := range lengths {
		first := len(n.Elems)
		for i := range length {
			n.Elems = append(n.Elems, api.Elem{Kind: api.ElH, A: 1, Ref: first + (i+1)%length, Val: "1"})
		}
	}
	return n
}

// petersen are two rings of so many nodes: neighbours in the one, and the next but so many in the other one.
func petersen(n, step int) api.Net {
	var pairs [][2]int
	for i := range n {
		pairs = append(pairs, [2]int{1 + i, 1 + (i+1)%n}, [2]int{1 + i, 1 + n + i}, [2]int{1 + n + i, 1 + n + (i+step)%n})
	}
	return bridges(2*n, pairs...)
}

// rook and shrikhande have 16 nodes, each with 6 neighbours; any two have two of them in common.
func rook() api.Net {
	var pairs [][2]int
	for i := range 16 {
		for k := range i {
			if i/4 == k/4 || i%4 == k%4 {
				pairs = append(pairs, [2]int{1 + i, 1 + k})
			}
		}
	}
	return bridges(16, pairs...)
}

func shrikhande() api.Net {
	var pairs [][2]int
	for i := range 16 {
		for _, step := range [][2]int{{0, 1}, {1, 0}, {1, 1}} {
			pairs = append(pairs, [2]int{1 + i, 1 + (i/4+step[0])%4*4 + (i%4+step[1])%4})
		}
	}
	return bridges(16, pairs...)
}

// latin is a Latin square: an element for each row and column, with the digit there.
func latin(rows ...string) api.Net {
	size := len(rows)
	n := api.Net{Nodes: 3 * size}
	for i, row := range rows {
		for k, digit := range row {
			n.Elems = append(n.Elems, api.Elem{Kind: api.ElG, A: 1 + i, B: 1 + size + k, C: 1 + 2*size + int(digit-'0'), Val: "1"})
		}
	}
	return n
}

// crown is nodes of two sides: each is connected with all of the other side, or with all but one.
func crown(n int, isWhole bool) api.Net {
	var pairs [][2]int
	for i := range n {
		for k := range n {
			if isWhole || i != k {
				pairs = append(pairs, [2]int{1 + i, 1 + n + k})
			}
		}
	}
	return bridges(2*n, pairs...)
}

// Nets of which all parts look the same from nearby: whether they are alike is told only by looking at all of them together.
func TestP9_7RegularNets(t *testing.T) {
	g := newNumbers()
	threes := slices.Repeat([]int{3}, 20)
	cyclic := latin("012345", "123450", "234501", "345012", "450123", "501234")
	other := latin("012345", "120453", "201534", "354021", "435102", "543210")
	uneven := latin("01234", "10342", "23401", "34120", "42013") // its elements are of several kinds, though all look the same from nearby
	loops := rings(1, slices.Repeat([]int{1}, 20)...)
	for i, k := range []struct {
		a, b api.Net
		want bool
	}{
		{rings(3, 4, 4, 4, 4, 4), rings(3, 4, 4, 4, 4, 4), true},
		{rings(3, 4, 4, 4, 4, 4), rings(3, 4, 4, 4, 8), false},
		{rings(2, 3, 3, 3, 3, 3, 3), rings(2, 3, 3, 3, 3, 6), false},
		{rings(2, 3, 4, 5, 6), rings(2, 6, 3, 5, 4), true},
		{rings(1, 10, 10), rings(1, 20), false},
		{loops, loops, true},
		{referring(threes...), referring(threes...), true},
		{referring(threes...), referring(append(threes[2:], 6)...), false},
		{referring(60), referring(30, 30), false},
		{referring(slices.Repeat([]int{1}, 60)...), referring(slices.Repeat([]int{1}, 60)...), true},
		{referring(slices.Repeat([]int{2}, 30)...), referring(append(slices.Repeat([]int{2}, 29), 1, 1)...), false},
		{petersen(10, 2), petersen(10, 2), true},
		{petersen(10, 3), petersen(10, 3), true},
		{petersen(10, 2), petersen(10, 3), false},
		{rook(), rook(), true},
		{shrikhande(), shrikhande(), true},
		{rook(), shrikhande(), false},
		{cyclic, cyclic, true},
		{cyclic, other, false},
		{uneven, uneven, true},
		{uneven, latin("01234", "12340", "23401", "34012", "40123"), false},
		{crown(7, true), crown(7, true), true},
		{crown(8, false), crown(8, false), true},
		{bridges(2, slices.Repeat([][2]int{{1, 2}}, 60)...), bridges(2, slices.Repeat([][2]int{{2, 1}}, 60)...), true},
		{bridges(20), bridges(20), true},
	} {
		for range 2 {
			if areAlike(t, g.shuffled(k.a), g.shuffled(k.b)) != k.want || areAlike(t, g.shuffled(k.b), g.shuffled(k.a)) != k.want {
				t.Errorf("the nets %d: not %t", i, k.want)
			}
		}
		isFirst(t, k.a, k.a, identity(k.a), true)
	}
}

// Nets that differ by a permutation and by exchanged ends alone are alike.
func TestP9_7Permutations(t *testing.T) {
	g := newNumbers()
	for range 300 {
		a := g.net(g.below(21), g.below(61), allKinds...)
		if g.below(3) == 0 {
			a = g.net(2+g.below(4), 40+g.below(21), api.ElR, api.ElM, api.ElH)
		}
		if !areAlike(t, a, g.shuffled(a)) {
			t.Fatalf("%s is not like what differs by names alone", brief(a))
		}
		isFirst(t, a, a, identity(a), true)
	}
}

// Whatever map Accept accepts shows that Compare has to find one.
func TestP9_7AcceptedMaps(t *testing.T) {
	g := newNumbers()
	found := 0
	for range 2000 {
		a := g.net(2, 3, api.ElR, api.ElH, api.ElS)
		b := g.changed(g.shuffled(a))
		_, is, _ := plan.Compare(a, b)
		for range 20 {
			m := api.PlMap{Nodes: append([]int{0}, one(g, []int{1, 2}, []int{2, 1})...), Elems: g.order(3), Flips: []bool{g.below(2) == 0, g.below(2) == 0, g.below(2) == 0}}
			if _, e := plan.Accept(a, b, m); e == api.OK {
				found++
				if !is {
					t.Fatalf("Compare finds no map of %v to %v", a, b)
				}
			}
		}
	}
	if found < 100 {
		t.Errorf("only %d maps", found)
	}
}

func TestP9_8Equivalence(t *testing.T) {
	g := newNumbers()
	count := map[bool]int{}
	for range 300 {
		var list []api.Net
		for range 4 {
			n := g.net(2, 2, api.ElR, api.ElM)
			if len(list) > 0 && g.below(2) == 0 {
				n = g.shuffled(one(g, list...))
			}
			list = append(list, n)
		}
		var are [4][4]bool
		for i, a := range list {
			for k, b := range list {
				are[i][k] = areAlike(t, a, b)
			}
		}
		for i := range list {
			if !are[i][i] {
				t.Errorf("%v is not like itself", list[i])
			}
			for k := range list {
				if are[i][k] != are[k][i] {
					t.Errorf("%v and %v are alike in one direction", list[i], list[k])
				}
				for l := range list {
					if i != k && k != l && are[i][k] && are[k][l] {
						count[are[i][l]]++
					}
				}
			}
		}
	}
	if count[false] > 0 || count[true] < 500 {
		t.Errorf("what is like something is like what this is like: %v", count)
	}
}
