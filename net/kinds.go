package net

import "pentode/api"

// when says under which condition something holds for an edge.
type when int

const (
	never when = iota
	always
	steady // for direct current
	opened // while the switch is open
)

// holds returns whether the condition is met by an element.
func (w when) holds(e api.Elem, dc bool) bool {
	switch w {
	case always:
		return true
	case steady:
		return dc
	case opened:
		return e.Ref == 0
	}
	return false
}

// What Ref of an element is.
const (
	noRef    = iota
	elemRef  // the number of an element that carries a current of its own
	stateRef // 1 of a switch that is closed, 0 of one that is open
)

// What Val of an element is.
const (
	noVal = iota
	anyVal
	aboveVal // above 0
)

// shape is what elements of a kind use, and what their edges are in the graph.
type shape struct {
	word     string // the first word of their lines
	nodes    string // the letters of their nodes, in the order of their lines
	ref, val int
	model    int  // the kind of model that they have, or 0
	own      bool // whether they carry a current of their own
	volts    when // when they are voltage edges
	cuts     when // when they are current edges
}

// shapes has a row for each kind of elements, by its number.
var shapes = [...]shape{
	api.ElR: {word: "r", nodes: "AB", val: aboveVal},
	api.ElC: {word: "c", nodes: "AB", val: aboveVal, cuts: steady},
	api.ElL: {word: "l", nodes: "AB", val: aboveVal, own: true, volts: steady},
	api.ElV: {word: "v", nodes: "AB", val: anyVal, own: true, volts: always},
	api.ElI: {word: "i", nodes: "AB", val: anyVal, cuts: always},
	api.ElE: {word: "e", nodes: "ABCD", val: anyVal, own: true, volts: always},
	api.ElG: {word: "g", nodes: "ABCD", val: anyVal, cuts: always},
	api.ElF: {word: "f", nodes: "AB", ref: elemRef, val: anyVal, cuts: always},
	api.ElH: {word: "h", nodes: "AB", ref: elemRef, val: anyVal, own: true, volts: always},
	api.ElD: {word: "d", nodes: "AB", model: api.MdCurve},
	api.ElM: {word: "m", nodes: "ACB", model: api.MdSquare, cuts: always},
	api.ElQ: {word: "q", nodes: "AB", model: api.MdCurve, cuts: steady},
	api.ElS: {word: "s", nodes: "AB", ref: stateRef, val: aboveVal, cuts: opened},
}

// isKind returns whether there are elements of a kind.
func isKind(kind int) bool {
	return kind > 0 && kind < len(shapes)
}

// kindOf returns the kind of the elements whose lines begin with a word, or 0.
func kindOf(word string) int {
	for kind, s := range shapes {
		if s.word == word {
			return kind
		}
	}
	return 0
}

// nodesOf returns the nodes of an element of a valid kind, in the order of its line.
func nodesOf(e api.Elem) []int {
	all := [...]int{e.A, e.B, e.C, e.D}
	var nodes []int
	for _, letter := range shapes[e.Kind].nodes {
		nodes = append(nodes, all[letter-'A'])
	}
	return nodes
}

// setNodes sets the nodes of an element, which are in the order of its line.
func setNodes(e *api.Elem, nodes []int) {
	var all [4]int
	for i, letter := range shapes[e.Kind].nodes {
		all[letter-'A'] = nodes[i]
	}
	e.A, e.B, e.C, e.D = all[0], all[1], all[2], all[3]
}
