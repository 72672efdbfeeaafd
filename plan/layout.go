package plan

import (
	"strconv"

	"pentode/api"
)

// layout is a layout that is valid, with its nodes.
type layout struct {
	tech  tech
	drawn *drawing
	nodes map[place]int // the number of the node of each place
	names []string      // of the nodes from 1 on
}

// ground is the name of the node 0.
const ground = "0"

// layoutOf reads a layout, or returns the error of Check, and then that of the nodes.
func layoutOf(l api.PlLayout) (*layout, api.Errno) {
	if _, _, e := Check(l); e != api.OK {
		return nil, e
	}
	t, _ := techOf(l.Tech)
	k := layout{tech: t, drawn: drawingOf(l.Rects), nodes: map[place]int{}}
	groups := parts(k.drawn.places(), k.drawn.touching)
	given, e := givenNames(groups, l.Labels)
	if e != api.OK {
		return nil, e
	}
	numbers := map[string]int{ground: 0}
	for _, label := range l.Labels {
		if _, isKnown := numbers[label.Name]; !isKnown {
			k.names = append(k.names, label.Name)
			numbers[label.Name] = len(k.names)
		}
	}
	for i, group := range groups {
		node, isNamed := numbers[given[i]]
		if !isNamed {
			node = len(k.names) + 1
			k.names = append(k.names, "n"+strconv.Itoa(node))
		}
		for _, p := range group {
			k.nodes[p] = node
		}
	}
	if len(k.names) > api.MaxNodes {
		return nil, api.ErrLong
	}
	return &k, api.OK
}

// givenNames are the names that labels give to groups; those of the others are empty.
func givenNames(groups [][]place, labels []api.PlLabel) ([]string, api.Errno) {
	number := map[place]int{}
	for i, group := range groups {
		for _, p := range group {
			number[p] = i
		}
	}
	names := make([]string, len(groups))
	for _, label := range labels {
		i, is := number[place{label.Layer, api.PlCell{X: label.X, Y: label.Y}}]
		switch {
		case !is:
			return nil, api.ErrNone
		case names[i] != "" && names[i] != label.Name:
			return nil, ErrShort
		}
		names[i] = label.Name
	}
	return names, api.OK
}

// isGuarded reports whether no way leads from a cell to the border but through the diffusion of a node.
func (k *layout) isGuarded(from api.PlCell, node int) bool {
	isWall := func(c api.PlCell) bool {
		n, is := k.nodes[place{api.LyDiff, c}]
		return is && n == node && c != from
	}
	isOut, entered := false, map[api.PlCell]bool{}
	walk(from, neighbours, func(c api.PlCell) bool {
		if isOut || entered[c] || isWall(c) {
			return false
		}
		isOut, entered[c] = isAtBorder(c), true
		return true
	})
	return !isOut
}
