package symbol_test

import (
	"strconv"
	"strings"
	"testing"

	"pentode/api"
	"pentode/net"
	"pentode/value"
)

// num reads a number, which has to be valid.
func num(t testing.TB, v api.Val) value.Num {
	t.Helper()
	x, e := value.Parse(v)
	if e != api.OK {
		t.Fatalf("Parse(%.40q) = %d", v, e)
	}
	return x
}

// nums reads numbers that are separated by blanks.
func nums(t testing.TB, s string) []value.Num {
	t.Helper()
	var list []value.Num
	for _, word := range strings.Fields(s) {
		list = append(list, num(t, api.Val(word)))
	}
	return list
}

// show writes numbers.
func show(list []value.Num) string {
	var words []string
	for _, x := range list {
		words = append(words, string(value.Text(x)))
	}
	return strings.Join(words, " ")
}

// spans reads the ends of spans, in any order.
func spans(t testing.TB, s string) []value.Span {
	t.Helper()
	ends := nums(t, s)
	var box []value.Span
	for i := 0; i+1 < len(ends); i += 2 {
		box = append(box, value.Span{Lo: ends[i], Hi: ends[i+1]})
	}
	return box
}

// showSpan writes a span as it is, with the end Lo first.
func showSpan(s value.Span) string {
	return show([]value.Num{s.Lo, s.Hi})
}

func showBox(box []value.Span) string {
	var words []string
	for _, s := range box {
		words = append(words, showSpan(s))
	}
	return strings.Join(words, ", ")
}

// terms reads a polynomial: its terms are separated by commas, and have a number and then the powers. Powers that are no ints
// are -1.
func terms(s string) []api.SyTerm {
	var p []api.SyTerm
	for part := range strings.SplitSeq(s, ",") {
		words := strings.Fields(part)
		if len(words) == 0 {
			continue
		}
		t := api.SyTerm{Coef: api.Val(words[0])}
		for _, word := range words[1:] {
			n, err := strconv.Atoi(word)
			if err != nil {
				n = -1
			}
			t.Pows = append(t.Pows, n)
		}
		p = append(p, t)
	}
	return p
}

// text writes a polynomial as terms reads it.
func text(p []api.SyTerm) string {
	var parts []string
	for _, t := range p {
		words := []string{string(t.Coef)}
		for _, n := range t.Pows {
			words = append(words, strconv.Itoa(n))
		}
		parts = append(parts, strings.Join(words, " "))
	}
	return strings.Join(parts, ", ")
}

// port reads a two-port: its five polynomials are separated by semicolons.
func port(kind int, s string) api.SyPort {
	var lists [5][]api.Val
	for i, list := range strings.Split(s, ";") {
		for word := range strings.FieldsSeq(list) {
			lists[i] = append(lists[i], api.Val(word))
		}
	}
	return api.SyPort{Kind: kind, N: [4][]api.Val(lists[:4]), D: lists[4]}
}

// showPort writes a two-port as port reads it, behind its kind.
func showPort(p api.SyPort) string {
	var parts []string
	for _, list := range append(p.N[:], p.D) {
		var words []string
		for _, v := range list {
			words = append(words, string(v))
		}
		parts = append(parts, strings.Join(words, " "))
	}
	return strconv.Itoa(p.Kind) + ": " + strings.Join(parts, "; ")
}

// read returns the net of some lines, which have to be right.
func read(t testing.TB, lines string) api.Net {
	t.Helper()
	f, line, e := net.Parse(strings.ReplaceAll(lines, "; ", "\n") + "\n")
	if line != 0 || e != api.OK {
		t.Fatalf("Parse(%.200q) = %d, %d", lines, line, e)
	}
	return f.Net
}

// divider is D of the chapter's examples.
func divider(t testing.TB) api.SyTask {
	return api.SyTask{Net: read(t, "v v1 1 0 5; r r1 1 2 2; c c1 2 0 3"), Syms: []int{1, 2}, In: 0, Out: 1}
}

// digits is the text of an integer with so many digits.
func digits(n int) api.Val {
	return api.Val("1" + strings.Repeat("0", n-1))
}

// numbers gives the same numbers in each run.
type numbers struct{ state uint64 }

func newNumbers() *numbers {
	return &numbers{state: 88172645463325252}
}

// below is an int from 0 to n - 1.
func (g *numbers) below(n int) int {
	g.state ^= g.state << 13
	g.state ^= g.state >> 7
	g.state ^= g.state << 17
	return int(g.state % uint64(n))
}

// num is a small number.
func (g *numbers) num() value.Num {
	x, _ := value.Ratio(int64(g.below(21)-10), int64(1+g.below(4)))
	return x
}

// above is one above 0.
func (g *numbers) above() value.Num {
	x, _ := value.Ratio(int64(1+g.below(10)), int64(1+g.below(4)))
	return x
}

func (g *numbers) nums(n int) []value.Num {
	list := make([]value.Num, n)
	for i := range list {
		list[i] = g.num()
	}
	return list
}

// spans is a box of small spans, of which some are points; their ends are in any order.
func (g *numbers) spans(n int) []value.Span {
	box := make([]value.Span, n)
	for i := range box {
		x := g.num()
		box[i] = value.Span{Lo: x, Hi: x}
		if g.below(4) > 0 {
			box[i].Hi = g.num()
		}
	}
	return box
}

// inside is a number of a span: often an end.
func (g *numbers) inside(s value.Span) value.Num {
	part, _ := value.Ratio(int64(g.below(5)), 4)
	return value.Add(s.Lo, value.Mul(part, value.Sub(s.Hi, s.Lo)))
}

func (g *numbers) point(box []value.Span) []value.Num {
	var x []value.Num
	for _, s := range box {
		x = append(x, g.inside(s))
	}
	return x
}

// terms is a polynomial of so many terms, in any order, with powers below a limit: so some have the same powers, and some are 0.
func (g *numbers) terms(count, vars, powers int) []api.SyTerm {
	p := make([]api.SyTerm, count)
	for i := range p {
		p[i] = api.SyTerm{Coef: value.Text(g.num())}
		for range vars {
			p[i].Pows = append(p[i].Pows, g.below(powers))
		}
	}
	return p
}

// linear are the kinds that nets have here.
var linear = []int{api.ElR, api.ElC, api.ElL, api.ElV, api.ElI, api.ElE, api.ElG, api.ElF, api.ElH, api.ElS}

// carriers are the numbers of elements that carry a current of their own.
func carriers(n api.Net) []int {
	var own []int
	for i, e := range n.Elems {
		switch e.Kind {
		case api.ElL, api.ElV, api.ElE, api.ElH:
			own = append(own, i)
		}
	}
	return own
}

// net is a valid net with so many nodes beside the ground, and elements of the kinds given.
func (g *numbers) net(nodes, elems int, kinds ...int) api.Net {
	n := api.Net{Nodes: nodes}
	node := func() int { return g.below(nodes + 1) }
	for range elems {
		e := api.Elem{Kind: kinds[g.below(len(kinds))], A: node(), B: node()}
		switch e.Kind {
		case api.ElR, api.ElC, api.ElL:
			e.Val = value.Text(g.above())
		case api.ElV, api.ElI, api.ElF, api.ElH:
			e.Val = value.Text(g.num())
		case api.ElE, api.ElG:
			e.C, e.D, e.Val = node(), node(), value.Text(g.num())
		case api.ElS:
			e.Ref, e.Val = g.below(2), value.Text(g.above())
		}
		n.Elems = append(n.Elems, e)
	}
	own := carriers(n)
	for i, e := range n.Elems {
		if e.Kind != api.ElF && e.Kind != api.ElH {
			continue
		}
		if len(own) == 0 {
			n.Elems[i] = api.Elem{Kind: api.ElI, A: e.A, B: e.B, Val: e.Val}
		} else {
			n.Elems[i].Ref = own[g.below(len(own))]
		}
	}
	return n
}

// task is one with a net of any kinds, at most so many unknowns, and at most so many symbols. Most often resistors connect all
// nodes with the ground.
func (g *numbers) task(unknowns, syms int) api.SyTask {
	for {
		n := g.net(1+g.below(unknowns), 2+g.below(10), linear...)
		if g.below(4) > 0 {
			n.Elems = append(n.Elems, g.tree(n.Nodes)...)
		}
		t := api.SyTask{Net: n}
		var sources []int
		for i, e := range n.Elems {
			switch {
			case e.Kind == api.ElV || e.Kind == api.ElI:
				sources = append(sources, i)
			case (e.Kind != api.ElS || e.Ref == 1) && len(t.Syms) < syms && g.below(2) == 0:
				t.Syms = append(t.Syms, i)
			}
		}
		size := n.Nodes + len(carriers(n))
		if size > unknowns || len(sources) == 0 {
			continue
		}
		for i := range t.Syms {
			k := g.below(i + 1)
			t.Syms[i], t.Syms[k] = t.Syms[k], t.Syms[i]
		}
		t.In, t.Out = sources[g.below(len(sources))], g.below(size)
		return t
	}
}

// tree are resistors that connect all nodes with the ground.
func (g *numbers) tree(nodes int) []api.Elem {
	var list []api.Elem
	for node := 1; node <= nodes; node++ {
		list = append(list, api.Elem{Kind: api.ElR, A: node, B: g.below(node), Val: value.Text(g.above())})
	}
	return list
}

// passive is a net of resistors, capacitors and inductors, in which all nodes are connected with the ground.
func (g *numbers) passive(nodes, more int) api.Net {
	n := g.net(nodes, more, api.ElR, api.ElC, api.ElL)
	n.Elems = append(n.Elems, g.tree(nodes)...)
	return n
}
