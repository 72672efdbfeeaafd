package plan

import (
	"slices"

	"pentode/api"
)

// colours are a number for each vertex: a vertex may lead to those of the other net with the same one. Those with the number 0 are left
// out; to which ones they lead is known, or looked for elsewhere.
type colours []int

// bound are the colours with which a vertex leads to another one, which has to have its colour.
func (c colours) bound(from, to int) (colours, bool) {
	if c[from] != c[to] {
		return nil, false
	}
	next := slices.Clone(c)
	fresh := slices.Max(c) + 1
	next[from], next[to] = fresh, fresh
	return next, true
}

// only are the colours of the vertices of two lists.
func (c colours) only(p, q []int) colours {
	next := make(colours, len(c))
	for _, v := range slices.Concat(p, q) {
		next[v] = c[v]
	}
	return next
}

// counts are how many of the first vertices have each colour.
func (c colours) counts(size int) []int {
	counts := make([]int, slices.Max(c)+1)
	for _, colour := range c[:size] {
		counts[colour]++
	}
	return counts
}

// areEven reports whether both halves have each colour equally often.
func (c colours) areEven() bool {
	half := len(c) / 2
	counts := c.counts(half)
	for _, colour := range c[half:] {
		counts[colour]--
	}
	return !slices.ContainsFunc(counts, func(n int) bool { return n != 0 })
}

// withoutSingle are the colours without those that each half has once.
func (c colours) withoutSingle(half int) colours {
	counts := c.counts(half)
	next := slices.Clone(c)
	for v, colour := range c {
		if counts[colour] == 1 {
			next[v] = 0
		}
	}
	return next
}

// What a vertex is to another one.
const (
	isEnd         = iota + 1 // one of two ends that can be exchanged
	isFirstEnd               // A
	isSecondEnd              // B
	isControl                // C
	isLastControl            // D
	refers
	isReferred
)

// tie is what a vertex is to another one.
type tie struct{ role, to int }

// tieElem ties an element to its nodes, and to the element that it refers to.
func (s *search) tieElem(side, at int, e api.Elem) {
	v := s.elem(side, at)
	a, b := isFirstEnd, isSecondEnd
	if exchangeable[e.Kind] {
		a, b = isEnd, isEnd
	}
	// What a kind does not use is the ground: this makes no difference, as it is the same for all of the kind.
	for _, t := range [...]tie{{a, e.A}, {b, e.B}, {isControl, e.C}, {isLastControl, e.D}} {
		node := s.node(side, t.to)
		s.ties[v] = append(s.ties[v], tie{t.role, node})
		s.ties[node] = append(s.ties[node], tie{t.role, v})
	}
	if refersToElem(e) {
		other := s.elem(side, e.Ref)
		s.ties[v] = append(s.ties[v], tie{refers, other})
		s.ties[other] = append(s.ties[other], tie{isReferred, v})
	}
}

// start are the colours by which the ground leads to the ground, a node to a node, and an element to one of its make.
func (s *search) start() colours {
	const grounds, others, first = 1, 2, 3
	c := make(colours, 2*s.size())
	for side, n := range s.nets {
		for i := range s.nodes {
			c[s.node(side, i)] = others
		}
		c[s.node(side, 0)] = grounds
		for i, e := range n.Elems {
			c[s.elem(side, i)] = first + s.makeOf(e, n)
		}
	}
	return c
}

// makeOf is the number of the first element of either net that is the same but for what it names.
func (s *search) makeOf(e api.Elem, n api.Net) int {
	before := 0
	for _, m := range s.nets {
		for i, f := range m.Elems {
			if haveOneMake(n, e, m, f) {
				return before + i
			}
		}
		before += len(m.Elems)
	}
	return before
}

// refined are colours by which vertices of one colour have ties of the same roles to the same colours, unless the nets do not have each
// colour equally often.
func (s *search) refined(c colours) (colours, bool) {
	before := -1
	for {
		finer, count := s.finer(c)
		switch {
		case !finer.areEven():
			return nil, false
		case count == before:
			return finer, true
		}
		c, before = finer, count
	}
}

// finer gives vertices one colour if they see the same, and tells how many colours there are.
func (s *search) finer(c colours) (next colours, count int) {
	var views []view
	for v, colour := range c {
		if colour != 0 {
			views = append(views, s.viewOf(c, v))
		}
	}
	slices.SortFunc(views, func(a, b view) int { return slices.Compare(a.sees, b.sees) })
	next = make(colours, len(c))
	for i, w := range views {
		if i == 0 || !slices.Equal(w.sees, views[i-1].sees) {
			count++
		}
		next[w.vertex] = count
	}
	return next, count
}

// view is what a vertex sees: its own colour, and its ties to vertices with colours, in the order of numbers.
type view struct {
	vertex int
	sees   []int
}

func (s *search) viewOf(c colours, v int) view {
	const more = 1000 // than there are colours
	sees := make([]int, 1, 1+len(s.ties[v]))
	sees[0] = c[v]
	for _, t := range s.ties[v] {
		if colour := c[t.to]; colour != 0 {
			sees = append(sees, t.role*more+colour)
		}
	}
	slices.Sort(sees[1:])
	return view{v, sees}
}
