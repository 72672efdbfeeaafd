package plan

import (
	"pentode/api"
	"pentode/net"
	"pentode/value"
)

// Check returns the part, the number in it and the error of a layout.
func Check(l api.PlLayout) (part, at int, e api.Errno) {
	if len(l.Rects) > api.MaxRects || len(l.Labels) > api.MaxLabels {
		return 0, 0, api.ErrLong
	}
	if _, e := techOf(l.Tech); e != api.OK {
		return 1, 0, e
	}
	for i, r := range l.Rects {
		if e := checkRect(r); e != api.OK {
			return 2, i, e
		}
	}
	for i, label := range l.Labels {
		if e := checkLabel(label); e != api.OK {
			return 3, i, e
		}
	}
	d := drawingOf(l.Rects)
	if wrong := cellsWhere(func(c api.PlCell) bool { return d.isChannel(c) && d.isResistor(c) }); len(wrong) > 0 {
		return 4, wrong[0].Y*api.MaxPlane + wrong[0].X, ErrRule
	}
	return 0, 0, api.OK
}

// tech is the numbers of a technology.
type tech struct{ sheet, area, cross, kp, vt value.Num }

// techOf reads a technology, or returns the error of it.
func techOf(from api.PlTech) (tech, api.Errno) {
	var t tech
	to := [...]*value.Num{&t.sheet, &t.area, &t.cross, &t.kp, &t.vt}
	for i, v := range [...]api.Val{from.Sheet, from.Area, from.Cross, from.Kp, from.Vt} {
		x, e := value.Parse(v)
		if e != api.OK {
			return tech{}, e
		}
		*to[i] = x
	}
	if value.Sign(t.sheet) <= 0 || value.Sign(t.area) < 0 || value.Sign(t.cross) < 0 || value.Sign(t.kp) <= 0 {
		return tech{}, api.ErrRange
	}
	return t, api.OK
}

func checkRect(r api.PlRect) api.Errno {
	switch {
	case !isLayer(r.Layer):
		return api.ErrArg
	case !isSide(r.X, r.W) || !isSide(r.Y, r.H):
		return api.ErrRange
	}
	return api.OK
}

// isSide reports whether a side of a rectangle is in the plane; a sum of both numbers could be no int.
func isSide(from, length int) bool {
	return from >= 0 && from < api.MaxPlane && length > 0 && length <= api.MaxPlane-from
}

func checkLabel(label api.PlLabel) api.Errno {
	switch {
	case !isWire(label.Layer):
		return api.ErrArg
	case !isName(label.Name):
		return api.ErrForm
	case !isInPlane(api.PlCell{X: label.X, Y: label.Y}):
		return api.ErrRange
	}
	return api.OK
}

// isName reports whether a word names a node: package net has this definition, and tells it by a file with this word.
func isName(word string) bool {
	is, _ := net.Order(api.NtFile{
		Net:   api.Net{Nodes: 1, Elems: []api.Elem{{Kind: api.ElR, A: 1, Val: "1"}}},
		Nodes: []string{word},
		Elems: []string{"r"},
	})
	return is || word == "0"
}
