package wave_test

import (
	"slices"
	"strings"
	"testing"

	"pentode/api"
	"pentode/net"
	"pentode/value"
)

// num reads a number, which has to be valid.
func num(t testing.TB, v api.Val) value.Num {
	t.Helper()
	x, e := value.Parse(v)
	if e != api.OK {
		t.Fatalf("Parse(%.40q) = %d", v, e)
	}
	return x
}

// words are texts that are separated by blanks.
func words(s string) []api.Val {
	var list []api.Val
	for word := range strings.FieldsSeq(s) {
		list = append(list, api.Val(word))
	}
	return list
}

// nums reads numbers that are separated by blanks.
func nums(t testing.TB, s string) []value.Num {
	t.Helper()
	var list []value.Num
	for _, v := range words(s) {
		list = append(list, num(t, v))
	}
	return list
}

// show writes numbers as nums reads them, showVals texts.
func show(list []value.Num) string {
	return showVals(vals(list))
}

func showVals(list []api.Val) string {
	var texts []string
	for _, v := range list {
		texts = append(texts, string(v))
	}
	return strings.Join(texts, " ")
}

// vals are the texts of numbers.
func vals(list []value.Num) []api.Val {
	var texts []api.Val
	for _, x := range list {
		texts = append(texts, value.Text(x))
	}
	return texts
}

// ranges reads the ends of ranges.
func ranges(s string) []api.Range {
	ends := words(s)
	var list []api.Range
	for i := 0; i+1 < len(ends); i += 2 {
		list = append(list, api.Range{Lo: ends[i], Hi: ends[i+1]})
	}
	return list
}

func showRanges(list []api.Range) string {
	var ends []api.Val
	for _, r := range list {
		ends = append(ends, r.Lo, r.Hi)
	}
	return showVals(ends)
}

// showBoxes writes boxes with semicolons between them.
func showBoxes(list [][]api.Range) string {
	var texts []string
	for _, box := range list {
		texts = append(texts, showRanges(box))
	}
	return strings.Join(texts, "; ")
}

// showSteps writes the times of steps and their numbers.
func showSteps(l []api.WvStep) string {
	var texts []string
	for _, s := range l {
		texts = append(texts, string(s.Time)+": "+showVals(s.X))
	}
	return strings.Join(texts, "; ")
}

// read returns the net of some lines, which have to be right.
func read(t testing.TB, lines string) api.Net {
	t.Helper()
	f, line, e := net.Parse(strings.ReplaceAll(lines, "; ", "\n") + "\n")
	if line != 0 || e != api.OK {
		t.Fatalf("Parse(%.200q) = %d, %d", lines, line, e)
	}
	return f.Net
}

// decay is R of the chapter's examples, and ramp is I.
func decay(t testing.TB) api.Net {
	t.Helper()
	return read(t, "r r1 1 0 1; c c1 1 0 1")
}

func ramp(t testing.TB) api.Net {
	t.Helper()
	return read(t, "i i1 0 1 2; c c1 1 0 4")
}

// digits is the text of an integer with so many digits.
func digits(n int) api.Val {
	return api.Val("1" + strings.Repeat("0", n-1))
}

func plus(x, y value.Num) value.Num  { return value.Add(x, y) }
func minus(x, y value.Num) value.Num { return value.Sub(x, y) }
func times(x, y value.Num) value.Num { return value.Mul(x, y) }
func over(x, y value.Num) value.Num {
	quotient, e := value.Div(x, y)
	if e != api.OK {
		panic("division by 0")
	}
	return quotient
}

// power is two to the power n.
func power(n int) value.Num {
	x := value.Int(1)
	for range max(n, -n) {
		x = plus(x, x)
	}
	if n < 0 {
		x = over(value.Int(1), x)
	}
	return x
}

// numbers gives the same numbers in each run.
type numbers struct{ state uint64 }

func newNumbers() *numbers {
	return &numbers{state: 88172645463325252}
}

// below is an int from 0 to n - 1.
func (g *numbers) below(n int) int {
	g.state ^= g.state << 13
	g.state ^= g.state >> 7
	g.state ^= g.state << 17
	return int(g.state % uint64(n))
}

// num is a small number, above one above 0.
func (g *numbers) num() value.Num {
	x, _ := value.Ratio(int64(g.below(41)-20), int64(1+g.below(6)))
	return x
}

func (g *numbers) above() value.Num {
	x, _ := value.Ratio(int64(1+g.below(20)), int64(1+g.below(6)))
	return x
}

func (g *numbers) nums(n int) []value.Num {
	var list []value.Num
	for range n {
		list = append(list, g.num())
	}
	return list
}

// ranges is a box of small ranges, of which some are points.
func (g *numbers) ranges(n int) []api.Range {
	var list []api.Range
	for range n {
		s := value.Point(g.num())
		if g.below(3) > 0 {
			s.Hi = plus(s.Lo, over(value.Int(int64(g.below(8))), value.Int(16)))
		}
		list = append(list, value.SpanText(s))
	}
	return list
}

// inside is a number of a span: often an end.
func (g *numbers) inside(s value.Span) value.Num {
	part, _ := value.Ratio(int64(g.below(5)), 4)
	return plus(s.Lo, times(part, minus(s.Hi, s.Lo)))
}

// curve is a model of some pieces, each with at most so many coefficients. One that rises has slopes above 0 everywhere.
func (g *numbers) curve(powers int, rises bool) api.Model {
	m := api.Model{Kind: api.MdCurve}
	at := g.num()
	var last []value.Num
	for k := range 1 + g.below(4) {
		piece := g.nums(1 + g.below(powers))
		if rises {
			piece = []value.Num{g.num(), g.above()}
		}
		if k > 0 {
			at = plus(at, over(value.Int(int64(1+g.below(8))), value.Int(int64(1+g.below(4)))))
			m.Breaks = append(m.Breaks, value.Text(at))
			// The constant makes both pieces meet at their break.
			piece[0] = plus(piece[0], minus(polynomial(last, at), polynomial(piece, at)))
		}
		last = piece
		m.Pieces = append(m.Pieces, vals(piece))
	}
	return m
}

// polynomial is the value of one at x.
func polynomial(p []value.Num, x value.Num) value.Num {
	var sum value.Num
	for _, c := range slices.Backward(p) {
		sum = plus(times(sum, x), c)
	}
	return sum
}

// carriers are the numbers of elements that carry a current of their own.
func carriers(n api.Net) []int {
	var own []int
	for i, e := range n.Elems {
		switch e.Kind {
		case api.ElL, api.ElV, api.ElE, api.ElH:
			own = append(own, i)
		}
	}
	return own
}

// size is how many unknowns there are.
func size(n api.Net) int {
	return n.Nodes + len(carriers(n))
}

// all are all kinds of elements, integrating those that integrating nets may have.
var (
	all         = []int{api.ElR, api.ElC, api.ElL, api.ElV, api.ElI, api.ElE, api.ElG, api.ElF, api.ElH, api.ElD, api.ElM, api.ElQ, api.ElS}
	integrating = []int{api.ElR, api.ElI, api.ElG, api.ElD, api.ElM, api.ElS}
)

// net is a valid net with so many nodes beside the ground, elements of the kinds given, and curves with so many coefficients
// at most; those of charges rise.
func (g *numbers) net(nodes, elems, powers int, kinds ...int) api.Net {
	n := api.Net{Nodes: nodes, Models: []api.Model{
		g.curve(powers, false), {Kind: api.MdSquare, Kp: value.Text(g.above()), Vt: value.Text(g.num())}, g.curve(2, true),
	}}
	node := func() int { return g.below(nodes + 1) }
	for range elems {
		e := api.Elem{Kind: kinds[g.below(len(kinds))], A: node(), B: node()}
		switch e.Kind {
		case api.ElR, api.ElC, api.ElL:
			e.Val = value.Text(g.above())
		case api.ElV, api.ElI, api.ElF, api.ElH:
			e.Val = value.Text(g.num())
		case api.ElE, api.ElG:
			e.C, e.D, e.Val = node(), node(), value.Text(g.num())
		case api.ElM:
			e.C, e.Model = node(), 1
		case api.ElQ:
			e.Model = 2
		case api.ElS:
			e.Ref, e.Val = g.below(2), value.Text(g.above())
		}
		n.Elems = append(n.Elems, e)
	}
	own := carriers(n)
	for i, e := range n.Elems {
		if e.Kind != api.ElF && e.Kind != api.ElH {
			continue
		}
		if len(own) == 0 {
			n.Elems[i] = api.Elem{Kind: api.ElI, A: e.A, B: e.B, Val: e.Val}
		} else {
			n.Elems[i].Ref = own[g.below(len(own))]
		}
	}
	return n
}

// small is a net of any kinds that has few enough unknowns. In many of them capacitors or resistors connect all nodes with
// the ground.
func (g *numbers) small(nodes, elems, powers int) api.Net {
	for {
		n := g.net(nodes, elems, powers, all...)
		if g.below(4) > 0 {
			for node := 1; node <= nodes; node++ {
				n.Elems = append(n.Elems, api.Elem{Kind: api.ElR + g.below(2), A: node, Val: value.Text(g.above())})
			}
		}
		if size(n) <= api.MaxUnknowns {
			return n
		}
	}
}

// flowing is an integrating net, with capacitors in either direction.
func (g *numbers) flowing(nodes, elems, powers int) api.Net {
	n := g.net(nodes, elems, powers, integrating...)
	for node := 1; node <= nodes; node++ {
		n.Elems = append(n.Elems, api.Elem{Kind: api.ElC, A: node, Val: value.Text(g.above())})
		if g.below(2) == 0 {
			n.Elems = append(n.Elems, api.Elem{Kind: api.ElC, B: node, Val: value.Text(g.above())})
		}
	}
	if g.below(3) == 0 {
		n.Elems = append(n.Elems, api.Elem{Kind: api.ElC, Val: "7"})
	}
	return n
}

// task is one of a few steps, whose net has any kinds of elements.
func (g *numbers) task(nodes, elems, powers int) api.WvTask {
	n := g.small(nodes, elems, powers)
	t := api.WvTask{Net: n, Start: vals(g.nums(size(n))), Bits: 4 + g.below(60)}
	t.Step = value.Text(over(value.Int(int64(1+g.below(6))), value.Int(int64(4+g.below(4)))))
	t.End = value.Text(over(value.Int(int64(1+g.below(9))), value.Int(3)))
	t.Tol = []api.Val{"0", "1/1000", "1/10", "20"}[g.below(4)]
	time := over(g.num(), value.Int(4))
	for i, e := range n.Elems {
		switch {
		case (e.Kind == api.ElV || e.Kind == api.ElI) && len(t.Sources) < api.MaxWvSources:
			t.Sources = append(t.Sources, g.source(i))
		case e.Kind == api.ElS:
			for range g.below(3) {
				time = plus(time, over(value.Int(int64(g.below(4))), value.Int(3)))
				t.Switches = append(t.Switches, api.WvSwitch{Elem: i, Time: value.Text(time), On: g.below(2) == 0})
			}
		}
	}
	return t
}

// source is the value of an element at some times.
func (g *numbers) source(elem int) api.WvSource {
	s := api.WvSource{Elem: elem}
	time := over(g.num(), value.Int(8))
	for range 1 + g.below(4) {
		time = plus(time, over(g.above(), value.Int(8)))
		s.Times = append(s.Times, value.Text(time))
		s.Vals = append(s.Vals, value.Text(g.num()))
	}
	return s
}
