package plan

import (
	"slices"

	"pentode/api"
	"pentode/net"
)

// exchangeable has, by kinds of elements, whether their ends can be exchanged.
var exchangeable = [...]bool{api.ElR: true, api.ElC: true, api.ElM: true, api.ElS: true}

// areOfOneSize reports whether two nets have as many nodes, and as many elements.
func areOfOneSize(a, b api.Net) bool {
	return a.Nodes == b.Nodes && len(a.Elems) == len(b.Elems)
}

// hasSizes reports whether the lists of a map have as many parts as both nets have.
func hasSizes(a, b api.Net, m api.PlMap) bool {
	return areOfOneSize(a, b) && len(m.Nodes) == a.Nodes+1 && len(m.Elems) == len(a.Elems) && len(m.Flips) == len(a.Elems)
}

// isMap reports whether a map has each node and each element once, and the ground for the ground.
func isMap(m api.PlMap) bool {
	return isPermutation(m.Nodes) && m.Nodes[0] == 0 && isPermutation(m.Elems)
}

func isPermutation(list []int) bool {
	sorted := slices.Sorted(slices.Values(list))
	for i, n := range sorted {
		if i != n {
			return false
		}
	}
	return true
}

// isAlikeBy reports whether nets are alike by a map of them, as far as an element of the first one tells.
func isAlikeBy(a, b api.Net, m api.PlMap, x int) bool {
	e, f := a.Elems[x], b.Elems[m.Elems[x]]
	if m.Flips[x] && !exchangeable[e.Kind] {
		return false
	}
	ends := endsOf(f, m.Flips[x])
	// What a kind does not use is the ground, which leads to the ground.
	return haveOneMake(a, e, b, f) &&
		m.Nodes[e.A] == ends[0] && m.Nodes[e.B] == ends[1] && m.Nodes[e.C] == f.C && m.Nodes[e.D] == f.D &&
		(!refersToElem(e) || m.Elems[e.Ref] == f.Ref)
}

// endsOf are the nodes A and B of an element, or B and A.
func endsOf(e api.Elem, flip bool) [2]int {
	if flip {
		return [2]int{e.B, e.A}
	}
	return [2]int{e.A, e.B}
}

func refersToElem(e api.Elem) bool {
	return e.Kind == api.ElF || e.Kind == api.ElH
}

// haveOneMake reports whether elements of two nets are the same, but for the nodes and elements that they name.
func haveOneMake(a api.Net, e api.Elem, b api.Net, f api.Elem) bool {
	return e.Kind == f.Kind && e.Val == f.Val &&
		(refersToElem(e) || e.Ref == f.Ref) &&
		net.Same(modelOf(a, e), modelOf(b, f))
}

// modelOf is a net of nothing but the model of an element, if it has one.
func modelOf(n api.Net, e api.Elem) api.Net {
	switch e.Kind {
	case api.ElD, api.ElM, api.ElQ:
		return api.Net{Models: n.Models[e.Model : e.Model+1]}
	}
	return api.Net{}
}
