package points

import (
	"pentode/api"
	"pentode/value"
)

// item is an item with its numbers, once it is read.
type item struct {
	api.PtItem
	at  value.Num
	mid []value.Num
	inv [][]value.Num
	box []value.Span
}

// read reads an item for a box, and returns whether it is well-formed.
func (w *item) read(x []value.Span) bool {
	switch w.Kind {
	case api.PtSplit:
		return w.hasNoMatrix() && w.Eq == 0 && w.readSplit(x)
	case api.PtEmpty:
		return w.hasNoMatrix() && w.Var == 0 && w.At == "" && isNumber(w.Eq, x)
	case api.PtNone, api.PtOne:
		return w.hasNoSplit() && len(w.Box) == 0 && w.readMatrix(x)
	case api.PtShrink:
		return w.hasNoSplit() && w.readMatrix(x) && w.readBox(x)
	}
	return false
}

func (w *item) hasNoMatrix() bool {
	return len(w.Mid) == 0 && len(w.Inv) == 0 && len(w.Box) == 0
}

func (w *item) hasNoSplit() bool {
	return w.Var == 0 && w.Eq == 0 && w.At == ""
}

// isNumber returns whether an unknown of a box, or an equation, has this number.
func isNumber(k int, x []value.Span) bool {
	return k >= 0 && k < len(x)
}

// readSplit reads At, and returns whether it is as it has to be, and Var.
func (w *item) readSplit(x []value.Span) bool {
	if !isNumber(w.Var, x) {
		return false
	}
	at, e := value.Parse(w.At)
	w.at = at
	return e == api.OK && value.Cmp(x[w.Var].Lo, at) < 0 && value.Cmp(at, x[w.Var].Hi) < 0
}

// readMatrix reads Mid and Inv, and returns whether they are as they have to be.
func (w *item) readMatrix(x []value.Span) bool {
	if len(w.Mid) != len(x) || !isSquare(w.Inv, len(x)) {
		return false
	}
	mid, ok := numbersOf(w.Mid)
	if !ok {
		return false
	}
	w.mid = mid
	for i, s := range x {
		if !value.SpanHas(s, mid[i]) {
			return false
		}
	}
	for _, texts := range w.Inv {
		row, ok := numbersOf(texts)
		if !ok {
			return false
		}
		w.inv = append(w.inv, row)
	}
	return true
}

// readBox reads Box, and returns whether it is as it has to be.
func (w *item) readBox(x []value.Span) bool {
	box, e := spansOf(w.Box)
	w.box = box
	return e == api.OK && len(box) == len(x)
}

// numbersOf returns the numbers of texts, and whether all of these are valid.
func numbersOf(texts []api.Val) ([]value.Num, bool) {
	list := make([]value.Num, len(texts))
	for i, v := range texts {
		x, e := value.Parse(v)
		if e != api.OK {
			return nil, false
		}
		list[i] = x
	}
	return list, true
}
