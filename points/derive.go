package points

import (
	"pentode/api"
	"pentode/value"
)

// Derive returns a proof.
func Derive(n api.Net, box []api.Range, plan api.PtPlan) (api.PtProof, api.Errno) {
	c, e := circuitFor(n, len(box))
	if e != api.OK {
		return api.PtProof{}, e
	}
	whole, e := spansOf(box)
	if e != api.OK {
		return api.PtProof{}, e
	}
	if !isBits(plan.Bits) || plan.Items < 1 || plan.Items > api.MaxPtItems {
		return api.PtProof{}, api.ErrRange
	}
	d := deriver{circuit: c, bits: plan.Bits, whole: whole}
	for stack := [][]value.Span{whole}; len(stack) > 0; {
		top := len(stack) - 1
		x := stack[top]
		if len(d.items) == plan.Items {
			return api.PtProof{}, ErrMore
		}
		behind, e := d.item(x)
		if e != api.OK {
			return api.PtProof{}, e
		}
		stack = append(stack[:top], behind...)
	}
	return api.PtProof{Items: d.items}, api.OK
}

func isBits(bits int) bool {
	return bits >= 4 && bits <= api.MaxPtBits
}

// deriver makes a proof for a box.
type deriver struct {
	circuit circuit
	bits    int
	whole   []value.Span
	items   []api.PtItem
}

// item appends the item for a box, and returns the boxes that are to be gone through behind it, the next one last.
func (d *deriver) item(x []value.Span) ([][]value.Span, api.Errno) {
	for eq, s := range equations(d.circuit, spans{}, x) {
		if !value.SpanHas(s, value.Int(0)) {
			d.items = append(d.items, api.PtItem{Kind: api.PtEmpty, Eq: eq})
			return nil, api.OK
		}
	}
	l, ok := d.circuit.look(x, d.bits)
	if !ok {
		return d.split(x)
	}
	meet, some := common(x, l.image)
	switch {
	case !some:
		return nil, d.add(api.PtNone, l, nil)
	case isInside(x, l.image):
		return nil, d.add(api.PtOne, l, nil)
	}
	b := outward(meet, x, d.bits)
	if shrinks(x, b) {
		return [][]value.Span{b}, d.add(api.PtShrink, l, b)
	}
	return d.split(x)
}

// add appends an item with what was seen in a box.
func (d *deriver) add(kind int, l look, box []value.Span) api.Errno {
	item := api.PtItem{Kind: kind}
	for i, x := range l.mid {
		if isLong(x) || anyLong(l.inv[i]) {
			return api.ErrLong
		}
		item.Mid = append(item.Mid, value.Text(x))
		item.Inv = append(item.Inv, textsOf(l.inv[i]))
	}
	if anyLong(ends(box)) {
		return api.ErrLong
	}
	if box != nil {
		item.Box = ranges(box)
	}
	d.items = append(d.items, item)
	return api.OK
}

// split appends an item that splits a box, and returns both halves.
func (d *deriver) split(x []value.Span) ([][]value.Span, api.Errno) {
	widest := -1
	var most value.Num
	for i, s := range x {
		width := value.SpanWidth(s)
		if value.Sign(width) == 0 {
			continue
		}
		if part := over(width, value.SpanWidth(d.whole[i])); widest < 0 || value.Cmp(part, most) > 0 {
			widest, most = i, part
		}
	}
	if widest < 0 {
		return nil, ErrEdge
	}
	at := cutOf(x[widest], d.bits)
	if isLong(at) {
		return nil, api.ErrLong
	}
	d.items = append(d.items, api.PtItem{Kind: api.PtSplit, Var: widest, At: value.Text(at)})
	lower, upper := halves(x, widest, at)
	return [][]value.Span{upper, lower}, api.OK
}

// cutOf returns where a span is split: a little below its middle, which is often a number where something else happens.
func cutOf(s value.Span, bits int) value.Num {
	part := over(value.Int(31), value.Int(64))
	exact := value.Add(s.Lo, value.Mul(part, value.SpanWidth(s)))
	if short := value.Down(exact, bits); value.Cmp(short, s.Lo) > 0 {
		return short
	}
	return exact
}

// look is what is seen in a box: a point, a matrix, and the image by them.
type look struct {
	mid   []value.Num
	inv   [][]value.Num
	image []value.Span
}

// look looks at a box, if the middles of its slopes have an inverse.
func (c circuit) look(x []value.Span, bits int) (look, bool) {
	slopes := c.slopes(x)
	middles := matrix[value.Num](c.size, c.size)
	for i, row := range slopes {
		for k, s := range row {
			middles[i][k] = value.SpanMid(s)
		}
	}
	inv, ok := inverted(middles)
	if !ok {
		return look{}, false
	}
	for _, row := range inv {
		for k, y := range row {
			row[k] = value.Down(y, bits)
		}
	}
	mid := make([]value.Num, c.size)
	for i, s := range x {
		mid[i] = middleOf(s, bits)
	}
	return look{mid, inv, c.image(x, slopes, mid, inv)}, true
}

// middleOf is the middle of a span, rounded if this is in the span.
func middleOf(s value.Span, bits int) value.Num {
	middle := value.SpanMid(s)
	if short := value.Down(middle, bits); value.SpanHas(s, short) {
		return short
	}
	return middle
}

// outward is what a box and its image have in common, rounded, as far as it is in the box.
func outward(meet, x []value.Span, bits int) []value.Span {
	b := make([]value.Span, len(x))
	for i, s := range meet {
		b[i], _ = value.SpanMeet(value.SpanOut(s, bits), x[i])
	}
	return b
}

// shrinks returns whether a box is wide somewhere, and another one in it is at most 3/4 as wide wherever it is.
func shrinks(x, b []value.Span) bool {
	wide := false
	for i, s := range x {
		width := value.SpanWidth(s)
		if value.Sign(width) == 0 {
			continue
		}
		wide = true
		if value.Cmp(value.Mul(value.Int(4), value.SpanWidth(b[i])), value.Mul(value.Int(3), width)) > 0 {
			return false
		}
	}
	return wide
}

// ends are all ends of the spans of a box.
func ends(box []value.Span) []value.Num {
	var list []value.Num
	for _, s := range box {
		list = append(list, s.Lo, s.Hi)
	}
	return list
}

func textsOf(list []value.Num) []api.Val {
	texts := make([]api.Val, len(list))
	for i, x := range list {
		texts[i] = value.Text(x)
	}
	return texts
}

// isLong returns whether the text of a number is too long for a Val.
func isLong(x value.Num) bool {
	return value.Digits(x) > api.MaxDigits
}

func anyLong(list []value.Num) bool {
	for _, x := range list {
		if isLong(x) {
			return true
		}
	}
	return false
}
