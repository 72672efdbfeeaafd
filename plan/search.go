package plan

import (
	"slices"

	"pentode/api"
)

// numbering gives the nodes, with the ground, and the elements of two nets of one size the numbers of vertices: those of the first net
// come first, and of each net its nodes.
type numbering struct{ nodes, elems int }

func (n numbering) size() int {
	return n.nodes + n.elems
}

func (n numbering) node(side, at int) int {
	return side*n.size() + at
}

func (n numbering) elem(side, at int) int {
	return side*n.size() + n.nodes + at
}

// search looks for the first map by which two nets of one size are alike.
type search struct {
	numbering
	nets [2]api.Net
	ties [][]tie // of each vertex
}

func searchOf(a, b api.Net) *search {
	s := search{numbering: numbering{a.Nodes + 1, len(a.Elems)}, nets: [2]api.Net{a, b}}
	s.ties = make([][]tie, 2*s.size())
	for side, n := range s.nets {
		for i, e := range n.Elems {
			s.tieElem(side, i, e)
		}
	}
	return &s
}

// first is the first map: as the order of maps is that of their elements, each element gets the first one, in the first direction, with
// which there is a map at all.
func (s *search) first() (api.PlMap, bool) {
	c, is := s.refined(s.start())
	if !is || !s.hasMap(c) {
		return api.PlMap{}, false
	}
	var m api.PlMap
	for x := range s.elems {
		y, flip, rest := s.firstChoice(c, x)
		m.Elems, m.Flips = append(m.Elems, y), append(m.Flips, flip)
		c = rest
	}
	m.Nodes = s.nodesFor(m)
	return m, true
}

// firstChoice is the first element to which another one can lead, in which direction, and the colours with this choice.
func (s *search) firstChoice(c colours, x int) (y int, flip bool, rest colours) {
	for y := range s.elems {
		for _, flip := range [...]bool{false, true} {
			rest, is := s.chosen(c, x, y, flip)
			if is && s.hasMap(rest) {
				return y, flip, rest
			}
		}
	}
	return 0, false, c // never: there is a map that keeps the colours
}

// chosen are the colours with which an element leads to another one, unless colours forbid it.
func (s *search) chosen(c colours, x, y int, flip bool) (colours, bool) {
	e, f := s.nets[0].Elems[x], s.nets[1].Elems[y]
	if flip && !exchangeable[e.Kind] {
		return nil, false
	}
	c, is := c.bound(s.elem(0, x), s.elem(1, y))
	from, to := endsOf(e, false), endsOf(f, flip)
	for i := range from {
		if is {
			c, is = c.bound(s.node(0, from[i]), s.node(1, to[i]))
		}
	}
	if !is {
		return nil, false
	}
	return s.refined(c)
}

// nodesFor are the nodes to which those of the elements lead; the first other ones lead to the first other ones, so that the ground
// leads to the ground also if no element has it.
func (s *search) nodesFor(m api.PlMap) []int {
	const none = -1
	nodes := slices.Repeat([]int{none}, s.nodes)
	for x, e := range s.nets[0].Elems {
		f := s.nets[1].Elems[m.Elems[x]]
		ends := endsOf(f, m.Flips[x])
		nodes[e.A], nodes[e.B], nodes[e.C], nodes[e.D] = ends[0], ends[1], f.C, f.D
	}
	next := 0
	for i, to := range nodes {
		if to != none {
			continue
		}
		for slices.Contains(nodes, next) {
			next++
		}
		nodes[i] = next
	}
	return nodes
}

// hasMap reports whether there is a map by which nets are alike, and that keeps colours.
func (s *search) hasMap(c colours) bool {
	var try func(c colours) bool
	try = func(c colours) bool {
		c, is := s.refined(c)
		if !is {
			return false
		}
		c = c.withoutSingle(s.size())
		switch all := s.connected(c); len(all) {
		case 0:
			return true
		case 2:
			return slices.ContainsFunc(s.guesses(c), try)
		default:
			return s.havePairs(all, func(p, q []int) bool { return try(c.only(p, q)) })
		}
	}
	return try(c)
}

// connected are the parts that ties connect among vertices that have a colour: those of the first net come first.
func (s *search) connected(c colours) [][]int {
	var list []int
	for v, colour := range c {
		if colour != 0 {
			list = append(list, v)
		}
	}
	return parts(list, func(v int) []int {
		var near []int
		for _, t := range s.ties[v] {
			near = append(near, t.to)
		}
		return near
	})
}

// havePairs reports whether the parts of both nets are alike in pairs. What is like a part is like all that are like it, so that each
// part may take the first one that is left.
func (s *search) havePairs(all [][]int, areAlike func(p, q []int) bool) bool {
	isOfSecond := func(p []int) bool { return p[0] >= s.size() }
	border := slices.IndexFunc(all, isOfSecond)
	left := slices.Clone(all[border:])
	for _, p := range all[:border] {
		at := slices.IndexFunc(left, func(q []int) bool { return areAlike(p, q) })
		if at < 0 {
			return false
		}
		left = slices.Delete(left, at, at+1)
	}
	return true
}

// guesses are the colours with which a vertex leads to each one that it may lead to. It is one with a colour that is as rare as any.
func (s *search) guesses(c colours) []colours {
	counts := c.counts(s.size())
	from := -1
	for v, colour := range c[:s.size()] {
		if colour != 0 && (from < 0 || counts[colour] < counts[c[from]]) {
			from = v
		}
	}
	var list []colours
	for to := s.size(); to < len(c); to++ {
		if next, is := c.bound(from, to); is {
			list = append(list, next)
		}
	}
	return list
}
