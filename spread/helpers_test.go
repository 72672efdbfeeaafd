package spread_test

import (
	"strings"
	"testing"

	"pentode/api"
	"pentode/net"
	"pentode/spread"
	"pentode/value"
)

// num reads a number, which has to be valid.
func num(t testing.TB, v api.Val) value.Num {
	t.Helper()
	x, e := value.Parse(v)
	if e != api.OK {
		t.Fatalf("Parse(%.40q) = %d", v, e)
	}
	return x
}

// words are texts that are separated by blanks.
func words(s string) []api.Val {
	var list []api.Val
	for word := range strings.FieldsSeq(s) {
		list = append(list, api.Val(word))
	}
	return list
}

// nums reads numbers that are separated by blanks.
func nums(t testing.TB, s string) []value.Num {
	t.Helper()
	var list []value.Num
	for _, v := range words(s) {
		list = append(list, num(t, v))
	}
	return list
}

// show writes numbers as nums reads them.
func show(list []value.Num) string {
	var texts []string
	for _, x := range list {
		texts = append(texts, string(value.Text(x)))
	}
	return strings.Join(texts, " ")
}

// ranges reads the ends of ranges.
func ranges(s string) []api.Range {
	ends := words(s)
	var list []api.Range
	for i := 0; i+1 < len(ends); i += 2 {
		list = append(list, api.Range{Lo: ends[i], Hi: ends[i+1]})
	}
	return list
}

// span reads a single range.
func span(s string) api.Range {
	return ranges(s)[0]
}

// read returns the net of some lines, which have to be right.
func read(t testing.TB, lines string) api.Net {
	t.Helper()
	f, line, e := net.Parse(strings.ReplaceAll(lines, "; ", "\n") + "\n")
	if line != 0 || e != api.OK {
		t.Fatalf("Parse(%.200q) = %d, %d", lines, line, e)
	}
	return f.Net
}

// task is one with the net of some lines.
func task(t testing.TB, lines string, out int, elems []int, box string) api.SpTask {
	t.Helper()
	return api.SpTask{Net: read(t, lines), Elems: elems, Ranges: ranges(box), Out: out}
}

// divider is V of the chapter's examples.
func divider(t testing.TB) api.SpTask {
	t.Helper()
	return task(t, "v v1 1 0 12; r r1 1 2 2; r r2 2 0 1", 1, []int{1, 2}, "1 3 1/2 3/2")
}

// balance is a resistor 1, a source of current that takes g times its voltage, and a source of current 1: the voltage is 1 / (1 + g).
func balance(t testing.TB, box string) api.SpTask {
	t.Helper()
	return task(t, "r r1 1 0 1; g g1 1 0 1 0 0; i i1 0 1 1", 0, []int{1}, box)
}

// digits is the text of an integer with so many digits.
func digits(n int) api.Val {
	return api.Val("1" + strings.Repeat("0", n-1))
}

// check holds a number and an error against what they have to be; the text is empty if there has to be none.
func check(t *testing.T, what string, x value.Num, e api.Errno, want api.Val, wantE api.Errno) {
	t.Helper()
	if wantE != api.OK {
		want = "0"
	}
	if value.Text(x) != want || e != wantE {
		t.Errorf("%.200s = %.200s, %d, not %.200s, %d", what, value.Text(x), e, want, wantE)
	}
}

// errnos are those of all functions but Check, for a range and numbers; all other results have to be zero.
func errnos(t *testing.T, k api.SpTask, x []value.Num, spec api.Range) []api.Errno {
	t.Helper()
	var list []api.Errno
	add := func(e api.Errno, isZero bool) {
		if e != api.OK && !isZero {
			t.Errorf("there are results beside the error %d", e)
		}
		list = append(list, e)
	}
	isZero := func(x value.Num) bool { return value.Sign(x) == 0 }
	v, e := spread.At(k, x)
	add(e, isZero(v))
	v, e = spread.Vertex(k, 0)
	add(e, isZero(v))
	is, e := spread.Regular(k)
	add(e, !is)
	w, e := spread.Worst(k)
	add(e, w == api.SpWorst{})
	l, e := spread.Adjoint(k, x)
	add(e, l == nil)
	l, e = spread.Slopes(k, x)
	add(e, l == nil)
	v, u, e := spread.Variance(k)
	add(e, isZero(v) && isZero(u))
	y, e := spread.Yield(k, spec, 1)
	add(e, y == api.SpYield{})
	in, all, e := spread.Count(k, spec, 2)
	add(e, in == 0 && all == 0)
	v, e = spread.Scale(k, spec, 3)
	add(e, isZero(v))
	return list
}

// numbers gives the same numbers in each run.
type numbers struct{ state uint64 }

func newNumbers() *numbers {
	return &numbers{state: 88172645463325252}
}

// below is an int from 0 to n - 1.
func (g *numbers) below(n int) int {
	g.state ^= g.state << 13
	g.state ^= g.state >> 7
	g.state ^= g.state << 17
	return int(g.state % uint64(n))
}

// num is a small number, above one above 0.
func (g *numbers) num() value.Num {
	x, _ := value.Ratio(int64(g.below(41)-20), int64(1+g.below(6)))
	return x
}

func (g *numbers) above() value.Num {
	x, _ := value.Ratio(int64(1+g.below(20)), int64(1+g.below(6)))
	return x
}

// carriers are the numbers of elements that carry a current of their own.
func carriers(n api.Net) []int {
	var own []int
	for i, e := range n.Elems {
		switch e.Kind {
		case api.ElL, api.ElV, api.ElE, api.ElH:
			own = append(own, i)
		}
	}
	return own
}

// size is how many unknowns there are.
func size(n api.Net) int {
	return n.Nodes + len(carriers(n))
}

// linear are the kinds of elements that the net of a task may have, those that leave most nets with values more often.
var linear = []int{
	api.ElR, api.ElC, api.ElL, api.ElV, api.ElI, api.ElE, api.ElG, api.ElF, api.ElH, api.ElS, api.ElR, api.ElR, api.ElR, api.ElI, api.ElG, api.ElF, api.ElS,
}

// needsAbove is whether the Val of an element has to be above 0.
func needsAbove(e api.Elem) bool {
	switch e.Kind {
	case api.ElR, api.ElC, api.ElL, api.ElS:
		return true
	}
	return false
}

// net is a valid net with so many nodes beside the ground. In most of them resistors connect all nodes with the ground.
func (g *numbers) net(nodes, elems int) api.Net {
	n := api.Net{Nodes: nodes}
	node := func() int { return g.below(nodes + 1) }
	for range elems {
		e := api.Elem{Kind: linear[g.below(len(linear))], A: node(), B: node(), Val: value.Text(g.num())}
		if e.A == e.B && g.below(8) > 0 {
			e.B = (e.A + 1) % (nodes + 1)
		}
		switch e.Kind {
		case api.ElE, api.ElG:
			e.C, e.D = node(), node()
		case api.ElS:
			e.Ref = g.below(2)
		}
		if needsAbove(e) {
			e.Val = value.Text(g.above())
		}
		n.Elems = append(n.Elems, e)
	}
	own := carriers(n)
	for i, e := range n.Elems {
		if e.Kind != api.ElF && e.Kind != api.ElH {
			continue
		}
		if len(own) == 0 {
			n.Elems[i] = api.Elem{Kind: api.ElI, A: e.A, B: e.B, Val: e.Val}
		} else {
			n.Elems[i].Ref = own[g.below(len(own))]
		}
	}
	if g.below(6) > 0 {
		for node := 1; node <= nodes; node++ {
			n.Elems = append(n.Elems, api.Elem{Kind: api.ElR, A: node, Val: value.Text(g.above())})
		}
		n.Elems = append(n.Elems, api.Elem{Kind: api.ElI, A: g.below(nodes + 1), B: g.below(nodes + 1), Val: "1"})
	}
	return n
}

// canVary is whether an element can be a parameter.
func canVary(e api.Elem) bool {
	return e.Kind != api.ElC && e.Kind != api.ElL && (e.Kind != api.ElS || e.Ref == 1)
}

// task is a valid one with at most so many parameters. Their ranges are near the values of the net, and some are single numbers.
func (g *numbers) task(nodes, elems, params int) api.SpTask {
	k := api.SpTask{}
	for size(k.Net) == 0 || size(k.Net) > api.MaxUnknowns {
		k.Net = g.net(nodes, max(elems, 1))
	}
	k.Out = g.below(size(k.Net))
	var free []int
	for i, e := range k.Net.Elems {
		if canVary(e) {
			free = append(free, i)
		}
	}
	for range params {
		if len(free) == 0 {
			break
		}
		at := g.below(len(free))
		e := k.Net.Elems[free[at]]
		k.Elems, k.Ranges = append(k.Elems, free[at]), append(k.Ranges, g.around(e))
		free = append(free[:at:at], free[at+1:]...)
	}
	return k
}

// around is a range around the Val of an element.
func (g *numbers) around(e api.Elem) api.Range {
	mid, _ := value.Parse(e.Val)
	if value.Sign(mid) == 0 {
		mid = value.Int(1)
	}
	part, _ := value.Ratio(int64(g.below(6)), int64(6<<g.below(3)))
	reach := value.Mul(value.Abs(mid), part)
	return value.SpanText(value.Span{Lo: value.Sub(mid, reach), Hi: value.Add(mid, value.Mul(reach, g.above()))})
}

// regular is a task that is regular, and has parameters.
func (g *numbers) regular(nodes, elems, params int) api.SpTask {
	for {
		k := g.task(1+g.below(nodes), 1+g.below(elems), params)
		if is, _ := spread.Regular(k); is && len(k.Elems) > 0 {
			return k
		}
	}
}

// inside are numbers of the box of a task: often ends.
func (g *numbers) inside(k api.SpTask) []value.Num {
	var x []value.Num
	for _, r := range k.Ranges {
		s, _ := value.SpanOf(r)
		part, _ := value.Ratio(int64(g.below(9)), 8)
		x = append(x, value.Add(s.Lo, value.Mul(part, value.SpanWidth(s))))
	}
	return x
}

// anywhere are numbers for the parameters of a task, also far from its box.
func (g *numbers) anywhere(k api.SpTask) []value.Num {
	var x []value.Num
	for _, elem := range k.Elems {
		if needsAbove(k.Net.Elems[elem]) {
			x = append(x, g.above())
		} else {
			x = append(x, g.num())
		}
	}
	return x
}

// spec is a range that has an end, or both, near the values of a regular task.
func (g *numbers) spec(k api.SpTask) api.Range {
	w, _ := spread.Worst(k)
	lo, _ := value.Parse(w.Lo)
	hi, _ := value.Parse(w.Hi)
	s := value.Span{Lo: lo, Hi: hi}
	at := func() value.Num {
		part, _ := value.Ratio(int64(g.below(13)-2), 8)
		return value.Add(s.Lo, value.Mul(part, value.SpanWidth(s)))
	}
	a, b := at(), at()
	return value.SpanText(value.Span{Lo: value.Min(a, b), Hi: value.Max(a, b)})
}
