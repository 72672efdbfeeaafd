package points

import (
	"pentode/api"
	"pentode/value"
)

// Check returns how many operating points there are in a box, if a proof of this is accepted.
func Check(n api.Net, box []api.Range, q api.PtProof) (ones, item int, e api.Errno) {
	boxes, item, e := checked(n, box, q)
	return len(boxes), item, e
}

// Boxes returns the boxes with one operating point each.
func Boxes(n api.Net, box []api.Range, q api.PtProof) ([][]api.Range, api.Errno) {
	boxes, _, e := checked(n, box, q)
	if e != api.OK {
		return nil, e
	}
	var list [][]api.Range
	for _, b := range boxes {
		list = append(list, ranges(b))
	}
	return list, api.OK
}

// fault leaves a proof at an item that is not accepted.
type fault struct {
	item int
	e    api.Errno
}

// proof is how far a proof has been gone through.
type proof struct {
	circuit circuit
	items   []api.PtItem
	next    int // the number of the item that comes next
	ones    [][]value.Span
}

// checked returns the boxes of a proof that is accepted, or the first item that is not, and why.
func checked(n api.Net, box []api.Range, q api.PtProof) (ones [][]value.Span, item int, e api.Errno) {
	c, e := circuitFor(n, len(box))
	if e != api.OK {
		return nil, 0, e
	}
	x, e := spansOf(box)
	if e != api.OK {
		return nil, 0, e
	}
	defer func() {
		left := recover()
		if left == nil {
			return
		}
		f, ok := left.(fault)
		if !ok {
			panic(left)
		}
		ones, item, e = nil, f.item, f.e
	}()
	p := proof{circuit: c, items: q.Items}
	p.tree(x)
	if p.next < len(p.items) {
		panic(fault{p.next, ErrTree})
	}
	return p.ones, 0, api.OK
}

// spansOf returns the spans of a box, or its error.
func spansOf(box []api.Range) ([]value.Span, api.Errno) {
	for _, r := range box {
		for _, v := range []api.Val{r.Lo, r.Hi} {
			if e := value.Check(v); e != api.OK {
				return nil, e
			}
		}
	}
	list := make([]value.Span, len(box))
	for i, r := range box {
		s, e := value.SpanOf(r)
		if e != api.OK {
			return nil, e
		}
		list[i] = s
	}
	return list, api.OK
}

// ranges are the texts of a box.
func ranges(box []value.Span) []api.Range {
	texts := make([]api.Range, len(box))
	for i, s := range box {
		texts[i] = value.SpanText(s)
	}
	return texts
}

// tree goes through the tree for a box. It leaves by a panic if it is not accepted.
func (p *proof) tree(x []value.Span) {
	at := p.next
	if at == len(p.items) {
		panic(fault{at, ErrTree})
	}
	if at >= api.MaxPtItems {
		panic(fault{at, api.ErrLong})
	}
	p.next++
	w := item{PtItem: p.items[at]}
	if !w.read(x) {
		panic(fault{at, ErrItem})
	}
	if !p.proves(w, x) {
		panic(fault{at, ErrFault})
	}
	switch w.Kind {
	case api.PtSplit:
		lower, upper := halves(x, w.Var, w.at)
		p.tree(lower)
		p.tree(upper)
	case api.PtOne:
		p.ones = append(p.ones, x)
	case api.PtShrink:
		p.tree(w.box)
	}
}

// halves are the parts of a box below and above a number of the span of an unknown.
func halves(x []value.Span, unknown int, at value.Num) (lower, upper []value.Span) {
	lower, upper = append(lower, x...), append(upper, x...)
	lower[unknown].Hi = at
	upper[unknown].Lo = at
	return lower, upper
}

// proves returns whether an item proves for a box what it has to.
func (p *proof) proves(w item, x []value.Span) bool {
	switch w.Kind {
	case api.PtSplit:
		return true
	case api.PtEmpty:
		return !value.SpanHas(equations(p.circuit, spans{}, x)[w.Eq], value.Int(0))
	}
	image := p.circuit.image(x, p.circuit.slopes(x), w.mid, w.inv)
	switch w.Kind {
	case api.PtNone:
		_, some := common(x, image)
		return !some
	case api.PtOne:
		return isInside(x, image)
	}
	for i, s := range w.box {
		meet, some := value.SpanMeet(image[i], x[i])
		if !spanContains(x[i], s) || some && !spanContains(s, meet) {
			return false
		}
	}
	return true
}
