package net

import "pentode/api"

// Incidence returns that of each node with all edges.
func Incidence(n api.Net) ([][]int, api.Errno) {
	if _, _, e := Check(n); e != api.OK {
		return nil, e
	}
	rows := make([][]int, n.Nodes+1)
	for node := range rows {
		rows[node] = make([]int, len(n.Elems))
	}
	for i, edge := range n.Elems {
		// an edge from a node to itself comes to 0
		rows[edge.A][i]++
		rows[edge.B][i]--
	}
	return rows, api.OK
}

// Cycles returns the directions of edges in the fundamental loops.
func Cycles(n api.Net) ([][]int, api.Errno) {
	if _, _, e := Check(n); e != api.OK {
		return nil, e
	}
	taken, _ := forest(n, func(api.Elem) bool { return true })
	var loops [][]int
	for i := range n.Elems {
		if !taken[i] {
			loops = append(loops, around(n, taken, i))
		}
	}
	return loops, api.OK
}

// Loop returns the first loop of voltage edges.
func Loop(n api.Net, dc bool) ([]int, api.Errno) {
	if _, _, e := Check(n); e != api.OK {
		return nil, e
	}
	isVolts := func(e api.Elem) bool { return shapes[e.Kind].volts.holds(e, dc) }
	taken, _ := forest(n, isVolts)
	for i, edge := range n.Elems {
		if isVolts(edge) && !taken[i] {
			return used(around(n, taken, i)), api.OK
		}
	}
	return nil, api.ErrNone
}

// Cut returns nodes that are not connected with the ground.
func Cut(n api.Net, dc bool) ([]int, api.Errno) {
	if _, _, e := Check(n); e != api.OK {
		return nil, e
	}
	_, least := forest(n, func(e api.Elem) bool { return !shapes[e.Kind].cuts.holds(e, dc) })
	var cut []int
	for node, first := range least {
		if first != 0 && (cut == nil || first == cut[0]) {
			cut = append(cut, node)
		}
	}
	if cut == nil {
		return nil, api.ErrNone
	}
	return cut, api.OK
}

// forest returns which edges are in the forest of those that are asked for and, for each node, the least node with which these connect it.
func forest(n api.Net, asked func(e api.Elem) bool) (taken []bool, least []int) {
	taken = make([]bool, len(n.Elems))
	least = make([]int, n.Nodes+1)
	for node := range least {
		least[node] = node
	}
	for i, edge := range n.Elems {
		a, b := least[edge.A], least[edge.B]
		if !asked(edge) || a == b {
			continue
		}
		taken[i] = true
		for node, first := range least {
			if first == max(a, b) {
				least[node] = min(a, b)
			}
		}
	}
	return taken, least
}

// around returns the directions of all edges in the loop for an edge that is not in the forest.
func around(n api.Net, taken []bool, edge int) []int {
	way := make([]int, len(n.Elems))
	goal := n.Elems[edge].A
	var walk func(at, last int) bool
	walk = func(at, last int) bool {
		if at == goal {
			return true
		}
		for i, el := range n.Elems {
			if !taken[i] || i == last || el.A != at && el.B != at {
				continue
			}
			next := el.B
			way[i] = 1
			if el.B == at {
				next = el.A
				way[i] = -1
			}
			if walk(next, i) {
				return true
			}
			way[i] = 0
		}
		return false
	}
	walk(n.Elems[edge].B, edge)
	way[edge] = 1
	return way
}

// used returns the edges that have a direction.
func used(way []int) []int {
	var edges []int
	for i, direction := range way {
		if direction != 0 {
			edges = append(edges, i)
		}
	}
	return edges
}
