package plan_test

import (
	"math/big"
	"slices"
	"strconv"

	"pentode/api"
	"pentode/plan"
)

// This file has the chapter's definitions written again: of layouts with the library's fractions, and of maps by going through all of them.

// spot is a place, or where one could be.
type spot struct{ layer, x, y int }

func isOn(l api.PlLayout, layer, x, y int) bool {
	return slices.ContainsFunc(l.Rects, func(r api.PlRect) bool {
		return r.Layer == layer && r.X <= x && x < r.X+r.W && r.Y <= y && y < r.Y+r.H
	})
}

func isChannelAt(l api.PlLayout, x, y int) bool {
	return isOn(l, api.LyDiff, x, y) && isOn(l, api.LyPoly, x, y)
}

func isResistorAt(l api.PlLayout, x, y int) bool {
	return isOn(l, api.LyPoly, x, y) && isOn(l, api.LyMark, x, y)
}

// spotsOf are the places of a layout, by layer, Y and X.
func spotsOf(l api.PlLayout) []spot {
	var list []spot
	for _, layer := range []int{api.LyDiff, api.LyPoly, api.LyMetal, api.LyTop} {
		for y := range 32 {
			for x := range 32 {
				switch {
				case !isOn(l, layer, x, y):
				case layer == api.LyDiff && isChannelAt(l, x, y):
				case layer == api.LyPoly && isResistorAt(l, x, y):
				default:
					list = append(list, spot{layer, x, y})
				}
			}
		}
	}
	return list
}

func distance(a, b int) int {
	return max(a-b, b-a)
}

// areBeside reports whether two cells are neighbours.
func areBeside(x, y, u, v int) bool {
	return distance(x, u)+distance(y, v) == 1
}

// touch reports whether two places touch.
func touch(l api.PlLayout, p, q spot) bool {
	if p.layer == q.layer {
		return areBeside(p.x, p.y, q.x, q.y)
	}
	if p.x != q.x || p.y != q.y {
		return false
	}
	lower, upper := min(p.layer, q.layer), max(p.layer, q.layer)
	return isOn(l, api.LyCut, p.x, p.y) && upper <= api.LyMetal || isOn(l, api.LyVia, p.x, p.y) && lower == api.LyMetal && upper == api.LyTop
}

// merged gives each of n things the least number of those that it is connected with.
func merged(n int, are func(i, k int) bool) []int {
	var list [][2]int
	for i := range n {
		for k := range i {
			if are(k, i) {
				list = append(list, [2]int{k, i})
			}
		}
	}
	least := make([]int, n)
	for i := range least {
		least[i] = i
	}
	for isChanged := true; isChanged; {
		isChanged = false
		for _, pair := range list {
			a, b := &least[pair[0]], &least[pair[1]]
			if *a != *b {
				*a, *b = min(*a, *b), min(*a, *b)
				isChanged = true
			}
		}
	}
	return least
}

// chart is a layout with the nodes of its places.
type chart struct {
	api.PlLayout
	spots []spot
	nodes map[spot]int
	names []string
}

// chartOf tells the nodes of a layout that is valid, or the error of them.
func chartOf(l api.PlLayout) (chart, api.Errno) {
	c := chart{PlLayout: l, spots: spotsOf(l), nodes: map[spot]int{}}
	least := merged(len(c.spots), func(i, k int) bool { return touch(l, c.spots[i], c.spots[k]) })
	given := map[int]string{}
	for _, label := range l.Labels {
		at := slices.Index(c.spots, spot{label.Layer, label.X, label.Y})
		if at < 0 {
			return c, api.ErrNone
		}
		if name, is := given[least[at]]; is && name != label.Name {
			return c, plan.ErrShort
		}
		given[least[at]] = label.Name
	}
	for _, label := range l.Labels {
		if label.Name != "0" && !slices.Contains(c.names, label.Name) {
			c.names = append(c.names, label.Name)
		}
	}
	named := slices.Clone(c.names)
	own := map[int]int{}
	for i, group := range least { // places are in the order by which groups are in order
		name, is := given[group]
		switch {
		case is && name == "0":
			c.nodes[c.spots[i]] = 0
		case is:
			c.nodes[c.spots[i]] = slices.Index(named, name) + 1
		case group == i:
			own[i] = len(c.names) + 1
			c.names = append(c.names, "n"+strconv.Itoa(own[i]))
			c.nodes[c.spots[i]] = own[i]
		default:
			c.nodes[c.spots[i]] = own[group]
		}
	}
	if len(c.names) > 20 {
		return c, api.ErrLong
	}
	return c, api.OK
}

// deviceList is the cells of each connected part of some cells.
func deviceList(isOf func(x, y int) bool) [][]api.PlCell {
	var all []api.PlCell
	for y := range 32 {
		for x := range 32 {
			if isOf(x, y) {
				all = append(all, api.PlCell{X: x, Y: y})
			}
		}
	}
	least := merged(len(all), func(i, k int) bool { return areBeside(all[i].X, all[i].Y, all[k].X, all[k].Y) })
	var list [][]api.PlCell
	for i := range all {
		var part []api.PlCell
		for k, group := range least {
			if group == i {
				part = append(part, all[k])
			}
		}
		if part != nil {
			list = append(list, part)
		}
	}
	return list
}

// edges are how many edges cells have to a layer, and the nodes there, ascending.
func (c chart) edges(part []api.PlCell, layer int) (count int, ends []int) {
	for _, cell := range part {
		for _, p := range c.spots {
			if p.layer == layer && areBeside(cell.X, cell.Y, p.x, p.y) {
				count++
				if !slices.Contains(ends, c.nodes[p]) {
					ends = append(ends, c.nodes[p])
				}
			}
		}
	}
	slices.Sort(ends)
	return count, ends
}

// times is a number, times a quotient, as a text.
func times(v api.Val, top, bottom int) api.Val {
	x, _ := new(big.Rat).SetString(string(v))
	return api.Val(x.Mul(x, big.NewRat(int64(top), int64(bottom))).RatString())
}

// extracted is what is found, but for errors of sizes.
func (c chart) extracted() (api.PlFound, api.Errno) {
	f := api.PlFound{Net: api.Net{Nodes: len(c.names)}, Nodes: c.names}
	for _, part := range deviceList(func(x, y int) bool { return isChannelAt(c.PlLayout, x, y) }) {
		e, ends := c.edges(part, api.LyDiff)
		if e == 0 || len(ends) > 2 {
			return api.PlFound{}, plan.ErrRule
		}
		m := square(times(c.Tech.Kp, e*e, 4*len(part)), c.Tech.Vt)
		at := slices.IndexFunc(f.Net.Models, func(other api.Model) bool { return other.Kp == m.Kp })
		if at < 0 {
			at = len(f.Net.Models)
			f.Net.Models = append(f.Net.Models, m)
		}
		gate := c.nodes[spot{api.LyPoly, part[0].X, part[0].Y}]
		f.Devices = append(f.Devices, api.PlDevice{Elem: len(f.Net.Elems), Edges: e, Cells: part})
		f.Net.Elems = append(f.Net.Elems, api.Elem{Kind: api.ElM, A: slices.Min(ends), B: slices.Max(ends), C: gate, Model: at})
	}
	for _, part := range deviceList(func(x, y int) bool { return isResistorAt(c.PlLayout, x, y) }) {
		e, ends := c.edges(part, api.LyPoly)
		if len(ends) != 2 {
			return api.PlFound{}, plan.ErrRule
		}
		f.Devices = append(f.Devices, api.PlDevice{Elem: len(f.Net.Elems), Edges: e, Cells: part})
		f.Net.Elems = append(f.Net.Elems, api.Elem{Kind: api.ElR, A: ends[0], B: ends[1], Val: times(c.Tech.Sheet, 4*len(part), e*e)})
	}
	f.Net.Elems = append(f.Net.Elems, c.capacitors()...)
	return f, api.OK
}

// capacitors are those between nodes, and those to the ground.
func (c chart) capacitors() []api.Elem {
	var list []api.Elem
	for a := range len(c.names) + 1 {
		for b := a + 1; b <= len(c.names); b++ {
			count := 0
			for _, p := range c.spots {
				other, is := c.nodes[spot{api.LyTop, p.x, p.y}]
				if p.layer == api.LyMetal && is && (c.nodes[p] == a && other == b || c.nodes[p] == b && other == a) {
					count++
				}
			}
			if count > 0 && c.Tech.Cross != "0" {
				list = append(list, api.Elem{Kind: api.ElC, A: a, B: b, Val: times(c.Tech.Cross, count, 1)})
			}
		}
	}
	for a := 1; a <= len(c.names); a++ {
		count := 0
		for _, p := range c.spots {
			if p.layer >= api.LyMetal && c.nodes[p] == a {
				count++
			}
		}
		if count > 0 && c.Tech.Area != "0" {
			list = append(list, api.Elem{Kind: api.ElC, A: a, Val: times(c.Tech.Area, count, 1)})
		}
	}
	return list
}

// isGuarded reports whether a cell is guarded by a node.
func (c chart) isGuarded(x, y, node int) bool {
	var reached, isClosed [32][32]bool
	for p, n := range c.nodes {
		if p.layer == api.LyDiff && n == node {
			isClosed[p.y][p.x] = true
		}
	}
	reached[y][x] = true
	for isChanged := true; isChanged; {
		isChanged = false
		for v := range 32 {
			for u := range 32 {
				isBeside := v > 0 && reached[v-1][u] || v < 31 && reached[v+1][u] || u > 0 && reached[v][u-1] || u < 31 && reached[v][u+1]
				if isBeside && !reached[v][u] && !isClosed[v][u] {
					reached[v][u] = true
					isChanged = true
				}
			}
		}
	}
	for i := range 32 {
		if reached[0][i] || reached[31][i] || reached[i][0] || reached[i][31] {
			return false
		}
	}
	return true
}

// unlike is the first element by which nets are not alike by a map of them, or -1.
func unlike(a, b api.Net, m api.PlMap) int {
	for x, e := range a.Elems {
		f := b.Elems[m.Elems[x]]
		straight := m.Nodes[e.A] == f.A && m.Nodes[e.B] == f.B
		crossed := m.Nodes[e.A] == f.B && m.Nodes[e.B] == f.A
		is := e.Kind == f.Kind && e.Val == f.Val
		if m.Flips[x] {
			is = is && crossed && slices.Contains([]int{api.ElR, api.ElC, api.ElS, api.ElM}, e.Kind)
		} else {
			is = is && straight
		}
		switch e.Kind {
		case api.ElE, api.ElG:
			is = is && m.Nodes[e.C] == f.C && m.Nodes[e.D] == f.D
		case api.ElF, api.ElH:
			is = is && m.Elems[e.Ref] == f.Ref
		case api.ElM:
			is = is && m.Nodes[e.C] == f.C
		case api.ElS:
			is = is && e.Ref == f.Ref
		}
		if !is || !sameModels(a, e, b, f) {
			return x
		}
	}
	return -1
}

// sameModels reports whether the models of two elements of one kind are equal, if they have some.
func sameModels(a api.Net, e api.Elem, b api.Net, f api.Elem) bool {
	if !slices.Contains([]int{api.ElD, api.ElM, api.ElQ}, e.Kind) {
		return true
	}
	k, m := a.Models[e.Model], b.Models[f.Model]
	return k.Kind == m.Kind && k.Kp == m.Kp && k.Vt == m.Vt && slices.Equal(k.Breaks, m.Breaks) && slices.EqualFunc(k.Pieces, m.Pieces, slices.Equal)
}

// firstMap goes through all maps of two nets, in their order, to the first one by which they are alike.
func firstMap(a, b api.Net) (api.PlMap, bool) {
	if a.Nodes != b.Nodes || len(a.Elems) != len(b.Elems) {
		return api.PlMap{}, false
	}
	var m api.PlMap
	var nodes, elems func() bool
	nodes = func() bool {
		if len(m.Nodes) == a.Nodes+1 {
			return unlike(a, b, m) < 0
		}
		for i := range a.Nodes + 1 {
			if slices.Contains(m.Nodes, i) || len(m.Nodes) == 0 && i > 0 {
				continue
			}
			m.Nodes = append(m.Nodes, i)
			if nodes() {
				return true
			}
			m.Nodes = m.Nodes[:len(m.Nodes)-1]
		}
		return false
	}
	elems = func() bool {
		if len(m.Elems) == len(a.Elems) {
			return nodes()
		}
		for y := range b.Elems {
			if slices.Contains(m.Elems, y) {
				continue
			}
			for _, flip := range []bool{false, true} {
				m.Elems, m.Flips = append(m.Elems, y), append(m.Flips, flip)
				if elems() {
					return true
				}
				m.Elems, m.Flips = m.Elems[:len(m.Elems)-1], m.Flips[:len(m.Flips)-1]
			}
		}
		return false
	}
	if !elems() {
		return api.PlMap{}, false
	}
	return m, true
}
