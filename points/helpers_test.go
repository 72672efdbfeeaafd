package points_test

import (
	"slices"
	"strings"
	"testing"

	"pentode/api"
	"pentode/net"
	"pentode/points"
	"pentode/value"
)

// num reads a number, which has to be valid.
func num(t testing.TB, v api.Val) value.Num {
	t.Helper()
	x, e := value.Parse(v)
	if e != api.OK {
		t.Fatalf("Parse(%.40q) = %d", v, e)
	}
	return x
}

// nums reads numbers that are separated by blanks.
func nums(t testing.TB, s string) []value.Num {
	t.Helper()
	list := []value.Num{}
	for _, word := range strings.Fields(s) {
		list = append(list, num(t, api.Val(word)))
	}
	return list
}

// rows reads the rows of a matrix, which are separated by slashes between blanks.
func rows(t testing.TB, s string) [][]value.Num {
	t.Helper()
	var m [][]value.Num
	for row := range strings.SplitSeq(s, " / ") {
		m = append(m, nums(t, row))
	}
	return m
}

// ranges reads the ends of ranges.
func ranges(s string) []api.Range {
	words := strings.Fields(s)
	list := []api.Range{}
	for i := 0; i+1 < len(words); i += 2 {
		list = append(list, api.Range{Lo: api.Val(words[i]), Hi: api.Val(words[i+1])})
	}
	return list
}

// spans reads the ends of spans, in any order.
func spans(t testing.TB, s string) []value.Span {
	t.Helper()
	list := []value.Span{}
	for _, r := range ranges(s) {
		list = append(list, value.Span{Lo: num(t, r.Lo), Hi: num(t, r.Hi)})
	}
	return list
}

// vals are the texts of numbers.
func vals(list []value.Num) []api.Val {
	texts := []api.Val{}
	for _, x := range list {
		texts = append(texts, value.Text(x))
	}
	return texts
}

// show writes numbers, rows and spans as the functions above read them.
func show(list []value.Num) string {
	var words []string
	for _, x := range list {
		words = append(words, string(value.Text(x)))
	}
	return strings.Join(words, " ")
}

func showRows(m [][]value.Num) string {
	var words []string
	for _, row := range m {
		words = append(words, show(row))
	}
	return strings.Join(words, " / ")
}

func showRanges(list []api.Range) string {
	var words []string
	for _, r := range list {
		words = append(words, string(r.Lo), string(r.Hi))
	}
	return strings.Join(words, " ")
}

func showSpans(list []value.Span) string {
	var texts []api.Range
	for _, s := range list {
		texts = append(texts, value.SpanText(s))
	}
	return showRanges(texts)
}

func showSpanRows(m [][]value.Span) string {
	var words []string
	for _, row := range m {
		words = append(words, showSpans(row))
	}
	return strings.Join(words, " / ")
}

// read returns the net of some lines, which have to be right.
func read(t testing.TB, list ...string) api.Net {
	t.Helper()
	f, line, e := net.Parse(strings.Join(append(slices.Clone(list), ""), "\n"))
	if line != 0 || e != api.OK {
		t.Fatalf("Parse(%.200q) = %d, %d", list, line, e)
	}
	return f.Net
}

// rising is the model of the chapter's examples.
const rising = "model k curve 0 1 | 1 | 2 -1 | 2 | -2 1"

// tunnel is the net W of the chapter's examples, with more lines.
func tunnel(t testing.TB, more ...string) api.Net {
	t.Helper()
	return read(t, append([]string{rising, "v v1 1 0 5/2", "r r1 1 2 2", "d d1 2 0 k"}, more...)...)
}

// device is a net of one unknown, whose equation is the curve with these coefficients and breaks, in turns.
func device(t testing.TB, curve string) api.Net {
	t.Helper()
	m := api.Model{Kind: api.MdCurve}
	for i, part := range strings.Split(curve, " | ") {
		if i%2 == 1 {
			m.Breaks = append(m.Breaks, api.Val(part))
		} else {
			m.Pieces = append(m.Pieces, vals(nums(t, part)))
		}
	}
	n := api.Net{Nodes: 1, Models: []api.Model{m}, Elems: []api.Elem{{Kind: api.ElD, A: 1}}}
	if part, at, e := net.Check(n); e != api.OK {
		t.Fatalf("%.200s: Check = %d, %d, %d", curve, part, at, e)
	}
	return n
}

// digits is the text of an integer with so many digits.
func digits(n int) api.Val {
	return api.Val("1" + strings.Repeat("0", n-1))
}

// point is a box of one number for each unknown.
func point(x []value.Num) []value.Span {
	var box []value.Span
	for _, v := range x {
		box = append(box, value.Point(v))
	}
	return box
}

// derived is the derived proof, which has to be one.
func derived(t testing.TB, n api.Net, box string, bits, items int) api.PtProof {
	t.Helper()
	q, e := points.Derive(n, ranges(box), api.PtPlan{Bits: bits, Items: items})
	if e != api.OK {
		t.Fatalf("Derive over %s = %d", box, e)
	}
	return q
}

// numbers gives the same numbers in each run.
type numbers struct{ state uint64 }

func newNumbers() *numbers {
	return &numbers{state: 88172645463325252}
}

// below is an int from 0 to n - 1.
func (g *numbers) below(n int) int {
	g.state ^= g.state << 13
	g.state ^= g.state >> 7
	g.state ^= g.state << 17
	return int(g.state % uint64(n))
}

// num is a small number.
func (g *numbers) num() value.Num {
	x, _ := value.Ratio(int64(g.below(41)-20), int64(1+g.below(6)))
	return x
}

// val is the text of a small number, above that of one above 0.
func (g *numbers) val() api.Val {
	return value.Text(g.num())
}

func (g *numbers) above() api.Val {
	x, _ := value.Ratio(int64(1+g.below(20)), int64(1+g.below(6)))
	return value.Text(x)
}

// nums is a list of small numbers.
func (g *numbers) nums(n int) []value.Num {
	list := make([]value.Num, n)
	for i := range list {
		list[i] = g.num()
	}
	return list
}

// spans is a box of small spans, of which some are points; their ends are in any order.
func (g *numbers) spans(n int) []value.Span {
	box := make([]value.Span, n)
	for i := range box {
		x := g.num()
		box[i] = value.Span{Lo: x, Hi: x}
		if g.below(4) > 0 {
			box[i].Hi = g.num()
		}
	}
	return box
}

// ranges is such a box with its ends in order, as texts.
func (g *numbers) ranges(n int) []api.Range {
	var list []api.Range
	for _, s := range g.spans(n) {
		list = append(list, value.SpanText(s))
	}
	return list
}

// inside is a number of a span: often an end.
func (g *numbers) inside(s value.Span) value.Num {
	part, _ := value.Ratio(int64(g.below(5)), 4)
	return value.Add(s.Lo, value.Mul(part, value.Sub(s.Hi, s.Lo)))
}

// curve is a model of some pieces, each with at most so many coefficients.
func (g *numbers) curve(powers int) api.Model {
	m := api.Model{Kind: api.MdCurve}
	at := g.num()
	var last []value.Num
	for k := range 1 + g.below(4) {
		piece := g.nums(1 + g.below(powers))
		if k > 0 {
			step, _ := value.Ratio(int64(1+g.below(8)), int64(1+g.below(4)))
			at = value.Add(at, step)
			m.Breaks = append(m.Breaks, value.Text(at))
			// The constant makes both pieces meet at their break.
			piece[0] = value.Add(piece[0], value.Sub(polynomial(last, at), polynomial(piece, at)))
		}
		last = piece
		m.Pieces = append(m.Pieces, vals(piece))
	}
	return m
}

// polynomial is the value of one at x.
func polynomial(p []value.Num, x value.Num) value.Num {
	var sum value.Num
	for _, c := range slices.Backward(p) {
		sum = value.Add(value.Mul(sum, x), c)
	}
	return sum
}

// carriers are the numbers of elements that carry a current of their own.
func carriers(n api.Net) []int {
	var own []int
	for i, e := range n.Elems {
		switch e.Kind {
		case api.ElL, api.ElV, api.ElE, api.ElH:
			own = append(own, i)
		}
	}
	return own
}

// net is a valid net with so many nodes beside the ground, elements of the kinds given, and curves with so many
// coefficients at most.
func (g *numbers) net(nodes, elems, powers int, kinds ...int) api.Net {
	n := api.Net{Nodes: nodes, Models: []api.Model{
		g.curve(powers), {Kind: api.MdSquare, Kp: g.above(), Vt: g.val()}, g.curve(powers), {Kind: api.MdSquare, Kp: g.above(), Vt: g.val()},
	}}
	node := func() int { return g.below(nodes + 1) }
	for range elems {
		e := api.Elem{Kind: kinds[g.below(len(kinds))], A: node(), B: node()}
		switch e.Kind {
		case api.ElR, api.ElC, api.ElL:
			e.Val = g.above()
		case api.ElV, api.ElI, api.ElF, api.ElH:
			e.Val = g.val()
		case api.ElE, api.ElG:
			e.C, e.D, e.Val = node(), node(), g.val()
		case api.ElD, api.ElQ:
			e.Model = 2 * g.below(2)
		case api.ElM:
			e.C, e.Model = node(), 1+2*g.below(2)
		case api.ElS:
			e.Ref, e.Val = g.below(2), g.above()
		}
		n.Elems = append(n.Elems, e)
	}
	own := carriers(n)
	for i, e := range n.Elems {
		if e.Kind != api.ElF && e.Kind != api.ElH {
			continue
		}
		if len(own) == 0 {
			n.Elems[i] = api.Elem{Kind: api.ElI, A: e.A, B: e.B, Val: e.Val}
		} else {
			n.Elems[i].Ref = own[g.below(len(own))]
		}
	}
	return n
}

// all are all kinds of elements.
var all = []int{api.ElR, api.ElC, api.ElL, api.ElV, api.ElI, api.ElE, api.ElG, api.ElF, api.ElH, api.ElD, api.ElM, api.ElQ, api.ElS}

// small is a net of any kinds that has few enough unknowns.
func (g *numbers) small(nodes, elems, powers int, kinds ...int) api.Net {
	for {
		n := g.net(nodes, elems, powers, kinds...)
		if nodes+len(carriers(n)) <= api.MaxUnknowns {
			return n
		}
	}
}
