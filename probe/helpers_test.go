package probe_test

import (
	"slices"
	"strings"
	"testing"

	"pentode/api"
	"pentode/net"
	"pentode/probe"
	"pentode/spread"
	"pentode/value"
)

// num reads a number, which has to be valid.
func num(t testing.TB, v api.Val) value.Num {
	t.Helper()
	x, e := value.Parse(v)
	if e != api.OK {
		t.Fatalf("Parse(%.40q) = %d", v, e)
	}
	return x
}

// words are texts that are separated by blanks.
func words(s string) []api.Val {
	var list []api.Val
	for word := range strings.FieldsSeq(s) {
		list = append(list, api.Val(word))
	}
	return list
}

// ranges reads the ends of ranges.
func ranges(s string) []api.Range {
	var list []api.Range
	for ends := range slices.Chunk(words(s), 2) {
		list = append(list, api.Range{Lo: ends[0], Hi: ends[1]})
	}
	return list
}

// meters reads Abs, Rel and Step of each meter.
func meters(s string) []api.PbMeter {
	var list []api.PbMeter
	for parts := range slices.Chunk(words(s), 3) {
		list = append(list, api.PbMeter{Abs: parts[0], Rel: parts[1], Step: parts[2]})
	}
	return list
}

// faults are those of an element with some ranges.
func faults(elem int, s string) []api.PbFault {
	var list []api.PbFault
	for _, r := range ranges(s) {
		list = append(list, api.PbFault{Elem: elem, Range: r})
	}
	return list
}

// read returns the net of some lines, which have to be right.
func read(t testing.TB, lines string) api.Net {
	t.Helper()
	f, line, e := net.Parse(strings.ReplaceAll(lines, "; ", "\n") + "\n")
	if line != 0 || e != api.OK {
		t.Fatalf("Parse(%.200q) = %d, %d", lines, line, e)
	}
	return f.Net
}

// divider is T of the chapter's examples.
func divider(t testing.TB) api.PbTask {
	t.Helper()
	return api.PbTask{
		Net:    read(t, "v v 1 0 12; r r1 1 2 2; r r2 2 0 1"),
		Elems:  []int{1, 2},
		Ranges: ranges("19/10 21/10 9/10 11/10"),
		Outs:   []int{1, 2},
		Meters: meters("1/10 0 0 0 1/10 0"),
		Faults: append(faults(1, "100 1000"), faults(2, "1/100 1/10")...),
	}
}

// source is a source of voltage, which is measured, and faults of it: so the predictions are any ranges. With no fault it is of 5.
func source(t testing.TB, meter, other string) api.PbTask {
	t.Helper()
	return api.PbTask{
		Net:    read(t, "v v 1 0 5"),
		Outs:   []int{0},
		Meters: meters(meter),
		Faults: faults(0, other),
	}
}

// balance is a resistor 1, a source of current that takes g times its voltage, and a source of current 1: the voltage is 1 / (1 + g).
func balance(t testing.TB, box, other string) api.PbTask {
	t.Helper()
	return api.PbTask{
		Net:    read(t, "r r1 1 0 1; g g1 1 0 1 0 0; i i1 0 1 1"),
		Elems:  []int{1},
		Ranges: ranges(box),
		Outs:   []int{0},
		Meters: meters("0 0 0"),
		Faults: faults(1, other),
	}
}

// digits is the text of an integer with so many digits.
func digits(n int) api.Val {
	return api.Val("1" + strings.Repeat("0", n-1))
}

// errnos are those of all functions with a task but Check; all other results have to be zero.
func errnos(t *testing.T, k api.PbTask, fault, mask, most, elem int, r api.Range, readings []api.Val) []api.Errno {
	t.Helper()
	var list []api.Errno
	add := func(e api.Errno, isZero bool) {
		if e != api.OK && !isZero {
			t.Errorf("there are results beside the error %d", e)
		}
		list = append(list, e)
	}
	p, e := probe.Predict(k, fault)
	add(e, len(p) == 0)
	d, e := probe.Dictionary(k)
	add(e, len(d) == 0)
	l, e := probe.Candidates(k, readings)
	add(e, len(l) == 0)
	told, all, e := probe.Pairs(k, mask)
	add(e, told == 0 && all == 0)
	mask, told, e = probe.Choose(k, most)
	add(e, mask == 0 && told == 0)
	f, e := probe.Fit(k, elem, r, readings)
	add(e, f == api.Range{})
	return list
}

// numbers gives the same numbers in each run.
type numbers struct{ state uint64 }

func newNumbers() *numbers {
	return &numbers{state: 88172645463325252}
}

// below is an int from 0 to n - 1.
func (g *numbers) below(n int) int {
	g.state ^= g.state << 13
	g.state ^= g.state >> 7
	g.state ^= g.state << 17
	return int(g.state % uint64(n))
}

// num is a small number, above one above 0.
func (g *numbers) num() value.Num {
	x, _ := value.Ratio(int64(g.below(41)-20), int64(1+g.below(6)))
	return x
}

func (g *numbers) above() value.Num {
	x, _ := value.Ratio(int64(1+g.below(20)), int64(1+g.below(6)))
	return x
}

// carriers are the numbers of elements that carry a current of their own.
func carriers(n api.Net) []int {
	var own []int
	for i, e := range n.Elems {
		switch e.Kind {
		case api.ElL, api.ElV, api.ElE, api.ElH:
			own = append(own, i)
		}
	}
	return own
}

// size is how many unknowns there are.
func size(n api.Net) int {
	return n.Nodes + len(carriers(n))
}

// linear are the kinds of elements that the net of a task may have, those that leave most nets with values more often.
var linear = []int{
	api.ElR, api.ElC, api.ElL, api.ElV, api.ElI, api.ElE, api.ElG, api.ElF, api.ElH, api.ElS, api.ElR, api.ElR, api.ElR, api.ElI, api.ElG, api.ElF, api.ElS,
}

// needsAbove is whether the Val of an element has to be above 0.
func needsAbove(e api.Elem) bool {
	switch e.Kind {
	case api.ElR, api.ElC, api.ElL, api.ElS:
		return true
	}
	return false
}

// canVary is whether an element can be a parameter.
func canVary(e api.Elem) bool {
	return e.Kind != api.ElC && e.Kind != api.ElL && (e.Kind != api.ElS || e.Ref == 1)
}

// net is a valid net with so many nodes beside the ground. In most of them resistors connect all nodes with the ground.
func (g *numbers) net(nodes, elems int) api.Net {
	n := api.Net{Nodes: nodes}
	node := func() int { return g.below(nodes + 1) }
	for range elems {
		e := api.Elem{Kind: linear[g.below(len(linear))], A: node(), B: node(), Val: value.Text(g.num())}
		if e.A == e.B && g.below(8) > 0 {
			e.B = (e.A + 1) % (nodes + 1)
		}
		switch e.Kind {
		case api.ElE, api.ElG:
			e.C, e.D = node(), node()
		case api.ElS:
			e.Ref = g.below(2)
		}
		if needsAbove(e) {
			e.Val = value.Text(g.above())
		}
		n.Elems = append(n.Elems, e)
	}
	own := carriers(n)
	for i, e := range n.Elems {
		if e.Kind != api.ElF && e.Kind != api.ElH {
			continue
		}
		if len(own) == 0 {
			n.Elems[i] = api.Elem{Kind: api.ElI, A: e.A, B: e.B, Val: e.Val}
		} else {
			n.Elems[i].Ref = own[g.below(len(own))]
		}
	}
	if g.below(6) > 0 {
		for node := 1; node <= nodes; node++ {
			n.Elems = append(n.Elems, api.Elem{Kind: api.ElR, A: node, Val: value.Text(g.above())})
		}
		n.Elems = append(n.Elems, api.Elem{Kind: api.ElI, A: g.below(nodes + 1), B: g.below(nodes + 1), Val: "1"})
	}
	return n
}

// task is a valid one with at most so many nodes, elements in its net (beside those that connect nodes with the ground), parameters,
// Outs and faults.
func (g *numbers) task(nodes, elems, params, outs, faults int) api.PbTask {
	var k api.PbTask
	for size(k.Net) == 0 || size(k.Net) > api.MaxUnknowns {
		k.Net = g.net(1+g.below(nodes), 1+g.below(elems))
	}
	var free []int
	for i, e := range k.Net.Elems {
		if canVary(e) {
			free = append(free, i)
		}
	}
	for range min(g.below(params+1), len(free)) {
		at := g.below(len(free))
		k.Elems, k.Ranges = append(k.Elems, free[at]), append(k.Ranges, g.around(k.Net.Elems[free[at]]))
		free = slices.Delete(free, at, at+1)
	}
	for range 1 + g.below(outs) {
		if out := g.below(size(k.Net)); !slices.Contains(k.Outs, out) {
			k.Outs, k.Meters = append(k.Outs, out), append(k.Meters, g.meter())
		}
	}
	elements := slices.Clone(k.Elems)
	if len(k.Elems) < api.MaxSpread {
		elements = append(elements, free...)
	}
	for range g.below(faults + 1) {
		if len(elements) > 0 {
			elem := elements[g.below(len(elements))]
			k.Faults = append(k.Faults, api.PbFault{Elem: elem, Range: g.far(k.Net.Elems[elem])})
		}
	}
	return k
}

// around is a range around the Val of an element.
func (g *numbers) around(e api.Elem) api.Range {
	mid, _ := value.Parse(e.Val)
	if value.Sign(mid) == 0 {
		mid = value.Int(1)
	}
	part, _ := value.Ratio(int64(g.below(6)), int64(12<<g.below(4)))
	reach := value.Mul(value.Abs(mid), part)
	return value.SpanText(value.Span{Lo: value.Sub(mid, reach), Hi: value.Add(mid, reach)})
}

// far is a range that mostly is far from the Val of an element.
func (g *numbers) far(e api.Elem) api.Range {
	if g.below(5) == 0 {
		return g.around(e)
	}
	times := [...]int64{1, 10, 1000}[g.below(3)]
	factor, _ := value.Ratio(times, [...]int64{1, 10, 1000}[g.below(3)])
	a, b := g.num(), g.num()
	if needsAbove(e) {
		a, b = g.above(), g.above()
	}
	return value.SpanText(value.SpanMul(value.SpanJoin(value.Point(a), value.Point(b)), value.Point(factor)))
}

// meter is a meter that mostly is a good one.
func (g *numbers) meter() api.PbMeter {
	small := func() api.Val {
		x, _ := value.Ratio(int64(g.below(4)), int64(4<<g.below(6)))
		return value.Text(x)
	}
	return api.PbMeter{Abs: small(), Rel: small(), Step: small()}
}

// regular is a task whose tasks of spread are regular, without and with faults.
func (g *numbers) regular(nodes, elems, params, outs, faults int) api.PbTask {
	for {
		k := g.task(nodes, elems, params, outs, faults)
		if isRegular(k) {
			return k
		}
	}
}

func isRegular(k api.PbTask) bool {
	for fault := range 1 + len(k.Faults) {
		if is, e := spread.Regular(sub(k, fault, k.Outs[0])); !is || e != api.OK {
			return false
		}
	}
	return true
}

// sub is the task of spread for a fault (or 0) and an unknown.
func sub(k api.PbTask, fault, out int) api.SpTask {
	s := api.SpTask{Net: k.Net, Out: out}
	wrong := api.PbFault{Elem: -1}
	if fault > 0 {
		wrong = k.Faults[fault-1]
	}
	for i, elem := range k.Elems {
		r := k.Ranges[i]
		if elem == wrong.Elem {
			r, wrong.Elem = wrong.Range, -1
		}
		s.Elems, s.Ranges = append(s.Elems, elem), append(s.Ranges, r)
	}
	if wrong.Elem >= 0 {
		s.Elems, s.Ranges = append(s.Elems, wrong.Elem), append(s.Ranges, wrong.Range)
	}
	return s
}

// inside are numbers of the box of a task of spread: often ends.
func (g *numbers) inside(s api.SpTask) []value.Num {
	var x []value.Num
	for _, r := range s.Ranges {
		x = append(x, g.within(r))
	}
	return x
}

// within is a number of a range: often an end.
func (g *numbers) within(r api.Range) value.Num {
	s, _ := value.SpanOf(r)
	part, _ := value.Ratio(int64(g.below(9)), 8)
	return value.Add(s.Lo, value.Mul(part, value.SpanWidth(s)))
}
