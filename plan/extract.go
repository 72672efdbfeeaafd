package plan

import (
	"slices"

	"pentode/api"
	"pentode/net"
	"pentode/value"
)

// extract finds the circuit of a layout.
func (k *layout) extract() (api.PlFound, api.Errno) {
	transistors := k.devices(k.drawn.isChannel, api.LyDiff)
	resistors := k.devices(k.drawn.isResistor, api.LyPoly)
	if slices.ContainsFunc(transistors, func(d device) bool { return d.isBroken(1) }) ||
		slices.ContainsFunc(resistors, func(d device) bool { return d.isBroken(2) }) {
		return api.PlFound{}, ErrRule
	}
	f := finding{api.PlFound{Net: api.Net{Nodes: len(k.names)}, Nodes: k.names}}
	for _, d := range transistors {
		f.addDevice(d, k.transistor(d, &f))
	}
	for _, d := range resistors {
		f.addDevice(d, k.resistor(d))
	}
	f.addElems(k.crossings())
	f.addElems(k.areas())
	// All but sizes is valid, so that this is no other error than ErrLong.
	if _, _, e := net.Check(f.Net); e != api.OK {
		return api.PlFound{}, e
	}
	return f.PlFound, api.OK
}

// finding is what has been found so far.
type finding struct{ api.PlFound }

func (f *finding) addElems(list []api.Elem) {
	f.Net.Elems = append(f.Net.Elems, list...)
}

func (f *finding) addDevice(d device, x api.Elem) {
	f.Devices = append(f.Devices, api.PlDevice{Elem: len(f.Net.Elems), Edges: d.edges, Cells: d.cells})
	f.addElems([]api.Elem{x})
}

// model is the number of the model with these parts, which is a new one if there is none yet.
func (f *finding) model(kp, vt api.Val) int {
	at := slices.IndexFunc(f.Net.Models, func(m api.Model) bool { return m.Kp == kp && m.Vt == vt })
	if at < 0 {
		at = len(f.Net.Models)
		f.Net.Models = append(f.Net.Models, api.Model{Kind: api.MdSquare, Kp: kp, Vt: vt})
	}
	return at
}

func (k *layout) transistor(d device, f *finding) api.Elem {
	return api.Elem{
		Kind:  api.ElM,
		A:     d.ends[0],
		B:     d.ends[len(d.ends)-1],
		C:     k.nodes[place{api.LyPoly, d.cells[0]}],
		Model: f.model(value.Text(value.Mul(k.tech.kp, d.aspect())), value.Text(k.tech.vt)),
	}
}

func (k *layout) resistor(d device) api.Elem {
	ohms, _ := value.Div(k.tech.sheet, d.aspect()) // a device with an end has an edge, so that its width is not 0
	return api.Elem{Kind: api.ElR, A: d.ends[0], B: d.ends[1], Val: value.Text(ohms)}
}

// crossings are the capacitors between nodes one of which has metal where the other one has top metal.
func (k *layout) crossings() []api.Elem {
	var counts [api.MaxNodes + 1][api.MaxNodes + 1]int
	for p, a := range k.nodes {
		if b, is := k.nodes[place{api.LyTop, p.cell}]; is && p.layer == api.LyMetal {
			counts[min(a, b)][max(a, b)]++
		}
	}
	var list []api.Elem
	for a, row := range counts {
		for b, count := range row {
			if a != b {
				list = append(list, capacitor(a, b, k.tech.cross, count)...)
			}
		}
	}
	return list
}

// areas are the capacitors from nodes with metal of any kind to the ground.
func (k *layout) areas() []api.Elem {
	var counts [api.MaxNodes + 1]int
	for p, node := range k.nodes {
		if p.layer == api.LyMetal || p.layer == api.LyTop {
			counts[node]++
		}
	}
	var list []api.Elem
	for node, count := range counts {
		if node != 0 {
			list = append(list, capacitor(node, 0, k.tech.area, count)...)
		}
	}
	return list
}

// capacitor is one of so many cells, or none if its value is 0.
func capacitor(a, b int, cell value.Num, count int) []api.Elem {
	farads := value.Mul(cell, value.Int(int64(count)))
	if value.Sign(farads) == 0 {
		return nil
	}
	return []api.Elem{{Kind: api.ElC, A: a, B: b, Val: value.Text(farads)}}
}
