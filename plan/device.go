package plan

import (
	"slices"

	"pentode/api"
	"pentode/value"
)

// device is a part of the channel, or of the resistor cells.
type device struct {
	cells []api.PlCell
	edges int
	ends  []int // its nodes, ascending
}

// devices are the connected parts of some cells; their ends are places of a layer.
func (k *layout) devices(isOf func(c api.PlCell) bool, layer int) []device {
	var list []device
	for _, cells := range parts(cellsWhere(isOf), neighbours) {
		d := device{cells: cells}
		for _, c := range cells {
			for _, beside := range neighbours(c) {
				if node, is := k.nodes[place{layer, beside}]; is {
					d.edges++
					d.ends = append(d.ends, node)
				}
			}
		}
		slices.Sort(d.ends)
		d.ends = slices.Compact(d.ends)
		list = append(list, d)
	}
	return list
}

// isBroken reports whether a device has not as many ends as it must have.
func (d device) isBroken(least int) bool {
	return len(d.ends) < least || len(d.ends) > 2
}

// aspect is the width of a device divided by its length.
func (d device) aspect() value.Num {
	x, _ := value.Ratio(int64(d.edges*d.edges), int64(4*len(d.cells)))
	return x
}

// haveOneForm reports whether cells, which are in order, become others if each is moved by the same X and Y.
func haveOneForm(a, b []api.PlCell) bool {
	x, y := b[0].X-a[0].X, b[0].Y-a[0].Y
	return slices.EqualFunc(a, b, func(c, d api.PlCell) bool { return d == api.PlCell{X: c.X + x, Y: c.Y + y} })
}
