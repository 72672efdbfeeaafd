package plan

import "pentode/api"

// wires are the layers that have places.
var wires = [...]int{api.LyDiff, api.LyPoly, api.LyMetal, api.LyTop}

// contacts are the layers that connect places of one cell, and two layers of these places.
var contacts = [...]struct{ by, a, b int }{
	{api.LyCut, api.LyDiff, api.LyPoly},
	{api.LyCut, api.LyDiff, api.LyMetal},
	{api.LyCut, api.LyPoly, api.LyMetal},
	{api.LyVia, api.LyMetal, api.LyTop},
}

func isLayer(layer int) bool {
	return layer >= api.LyDiff && layer <= api.LyVia
}

func isWire(layer int) bool {
	for _, wire := range wires {
		if wire == layer {
			return true
		}
	}
	return false
}

func isInPlane(c api.PlCell) bool {
	return c.X >= 0 && c.X < api.MaxPlane && c.Y >= 0 && c.Y < api.MaxPlane
}

func isAtBorder(c api.PlCell) bool {
	const last = api.MaxPlane - 1
	return c.X == 0 || c.X == last || c.Y == 0 || c.Y == last
}

// neighbours are those of a cell; some may not be in the plane.
func neighbours(c api.PlCell) []api.PlCell {
	return []api.PlCell{{X: c.X, Y: c.Y - 1}, {X: c.X - 1, Y: c.Y}, {X: c.X + 1, Y: c.Y}, {X: c.X, Y: c.Y + 1}}
}

// cellsWhere are the cells of the plane for which something holds, in order.
func cellsWhere(holds func(c api.PlCell) bool) []api.PlCell {
	var list []api.PlCell
	for y := range api.MaxPlane {
		for x := range api.MaxPlane {
			if c := (api.PlCell{X: x, Y: y}); holds(c) {
				list = append(list, c)
			}
		}
	}
	return list
}

// drawing is which cells each layer has, by Y and X.
type drawing [api.LyVia + 1][api.MaxPlane][api.MaxPlane]bool

// drawingOf draws rectangles, which have to be valid.
func drawingOf(rects []api.PlRect) *drawing {
	var d drawing
	for _, r := range rects {
		for y := range r.H {
			for x := range r.W {
				d[r.Layer][r.Y+y][r.X+x] = true
			}
		}
	}
	return &d
}

// has reports whether a cell, which may be any one, is on a layer.
func (d *drawing) has(layer int, c api.PlCell) bool {
	return isInPlane(c) && d[layer][c.Y][c.X]
}

func (d *drawing) isChannel(c api.PlCell) bool {
	return d.has(api.LyDiff, c) && d.has(api.LyPoly, c)
}

func (d *drawing) isResistor(c api.PlCell) bool {
	return d.has(api.LyPoly, c) && d.has(api.LyMark, c)
}

// place is a cell of a layer that is part of a node.
type place struct {
	layer int
	cell  api.PlCell
}

// places are all of them, by their layers and then in the order of cells.
func (d *drawing) places() []place {
	var list []place
	for _, layer := range wires {
		for _, c := range cellsWhere(func(c api.PlCell) bool { return d.has(layer, c) }) {
			isInDevice := layer == api.LyDiff && d.isChannel(c) || layer == api.LyPoly && d.isResistor(c)
			if !isInDevice {
				list = append(list, place{layer, c})
			}
		}
	}
	return list
}

// touching are where places that touch a place can be.
func (d *drawing) touching(p place) []place {
	var list []place
	for _, c := range neighbours(p.cell) {
		list = append(list, place{p.layer, c})
	}
	for _, k := range contacts {
		if !d.has(k.by, p.cell) {
			continue
		}
		switch p.layer {
		case k.a:
			list = append(list, place{k.b, p.cell})
		case k.b:
			list = append(list, place{k.a, p.cell})
		}
	}
	return list
}
