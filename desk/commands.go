package desk

import (
	"slices"
	"strconv"
	"strings"

	"pentode/api"
	"pentode/filter"
	"pentode/net"
	"pentode/points"
	"pentode/poly"
	"pentode/probe"
	"pentode/spread"
	"pentode/symbol"
	"pentode/value"
	"pentode/wave"
)

// command is a row of the table: the words with which lines begin, the form of what is behind them, and what is done.
type command struct {
	first, form string
	does        func(asked) []string
}

// table returns all commands. Of two that begin with the same word the longer one comes first.
func table() []command {
	return []command{
		{"text", "", text},
		{"unknowns", "", unknowns},
		{"loop dc", "", func(a asked) []string { return loop(a, true) }},
		{"loop", "", func(a asked) []string { return loop(a, false) }},
		{"cut dc", "", func(a asked) []string { return cut(a, true) }},
		{"cut", "", func(a asked) []string { return cut(a, false) }},
		{"exact", "", exact},
		{"points", "INT INT BOX", prove},
		{"narrow", "INT INT BOX", narrow},
		{"stable", "POINT", stable},
		{"char", "", char},
		{"ratio", "ELEM UNKNOWN", ratio},
		{"transfer", "ELEM UNKNOWN ( ELEM )..", transfer},
		{"wave", "NUM NUM NUM INT POINT", follow},
		{"enclose", "NUM INT INT BOX", enclose},
		{"worst", "UNKNOWN and ( ELEM NUM NUM )..", worst},
		{"yield", "INT NUM NUM UNKNOWN and ( ELEM NUM NUM )..", yield},
		{"faults", "NUM NUM NUM and ( UNKNOWN NUM ).. by ( ELEM NUM NUM )..", faults},
		{"ladder", "NUM NUM ( NUM )..", ladder},
	}
}

// rowOf returns the command of a line, and the words behind its first ones. It leaves a line that is none.
func rowOf(line []string) (row command, rest []string) {
	for _, c := range table() {
		first := strings.Fields(c.first)
		if len(line) >= len(first) && slices.Equal(line[:len(first)], first) {
			return c, line[len(first):]
		}
	}
	panic(wrong{api.ErrForm})
}

func text(a asked) []string {
	return printed(a.NtFile)
}

// printed are the lines of a file.
func printed(f api.NtFile) []string {
	s, e := net.Print(f)
	must(e)
	lines := strings.Split(s, "\n")
	return lines[:len(lines)-1]
}

func unknowns(a asked) []string {
	return []string{sentence("unknowns", a.unknowns...)}
}

func loop(a asked, dc bool) []string {
	list, e := net.Loop(a.Net, dc)
	must(e)
	var names []string
	for _, elem := range list {
		names = append(names, a.Elems[elem])
	}
	return []string{sentence("loop", names...)}
}

func cut(a asked, dc bool) []string {
	list, e := net.Cut(a.Net, dc)
	must(e)
	var names []string
	for _, node := range list {
		names = append(names, a.Nodes[node-1])
	}
	return []string{sentence("cut", names...)}
}

func exact(a asked) []string {
	list, e := points.Exact(a.Net)
	must(e)
	var lines []string
	for _, x := range list {
		lines = append(lines, sentence("point", vals(x)...))
	}
	return lines
}

func prove(a asked) []string {
	box := ranges(a.nums)
	proof, e := points.Derive(a.Net, box, api.PtPlan{Bits: a.ints[0], Items: a.ints[1]})
	must(e)
	list, e := points.Boxes(a.Net, box, proof)
	must(e)
	return append([]string{sentence("points", integers(len(list))...)}, boxes(list...)...)
}

func narrow(a asked) []string {
	box, e := points.Narrow(a.Net, ranges(a.nums), a.ints[0], a.ints[1])
	must(e)
	return boxes(box)
}

func stable(a asked) []string {
	right, axis, e := points.Stable(a.Net, a.nums)
	must(e)
	return []string{sentence("stable", integers(right, axis)...)}
}

func char(a asked) []string {
	p, e := points.Char(a.Net)
	must(e)
	return []string{sentence("char", vals(p)...)}
}

func ratio(a asked) []string {
	num, den, e := symbol.Ratio(api.SyTask{Net: a.Net, In: a.elems[0], Out: a.outs[0]})
	must(e)
	return []string{sentence("num", vals(num)...), sentence("den", vals(den)...)}
}

func transfer(a asked) []string {
	num, den, e := symbol.Transfer(api.SyTask{Net: a.Net, In: a.elems[0], Out: a.outs[0], Syms: a.elems[1:]})
	must(e)
	return append(terms("num", num), terms("den", den)...)
}

// follow does wave, whose name is that of a package.
func follow(a asked) []string {
	v := vals(a.nums)
	list, e := wave.Run(api.WvTask{Net: a.Net, Step: v[0], End: v[1], Tol: v[2], Bits: a.ints[0], Start: v[3:]})
	must(e)
	var lines []string
	for _, s := range list {
		lines = append(lines, sentence("at "+string(s.Time), s.X...))
	}
	return lines
}

func enclose(a asked) []string {
	list, e := wave.Enclose(a.Net, ranges(a.nums[1:]), value.Text(a.nums[0]), a.ints[0], a.ints[1])
	must(e)
	return boxes(list...)
}

// varied is the task of spread that a line asks for, with the ranges behind so many other numbers.
func varied(a asked, others int) api.SpTask {
	return api.SpTask{Net: a.Net, Elems: a.elems, Ranges: ranges(a.nums[others:]), Out: a.outs[0]}
}

func worst(a asked) []string {
	w, e := spread.Worst(varied(a, 0))
	must(e)
	return []string{sentence("worst", string(w.Lo), string(w.Hi), strconv.Itoa(w.LoAt), strconv.Itoa(w.HiAt))}
}

func yield(a asked) []string {
	y, e := spread.Yield(varied(a, 2), ranges(a.nums[:2])[0], a.ints[0])
	must(e)
	return []string{sentence("yield", string(y.Lo), string(y.Hi), strconv.Itoa(y.Boxes))}
}

func faults(a asked) []string {
	v, behind := vals(a.nums), 3+len(a.outs)
	task := api.PbTask{Net: a.Net, Outs: a.outs}
	for range a.outs {
		task.Meters = append(task.Meters, api.PbMeter{Abs: v[0], Rel: v[1], Step: v[2]})
	}
	for i, r := range ranges(a.nums[behind:]) {
		task.Faults = append(task.Faults, api.PbFault{Elem: a.elems[i], Range: r})
	}
	list, e := probe.Candidates(task, v[3:behind])
	must(e)
	return []string{sentence("faults", integers(list...)...)}
}

func ladder(a asked) []string {
	q, e := filter.Ladder(poly.Trim(a.nums[2:]))
	must(e)
	n, e := filter.Net(q, a.nums[0], a.nums[1])
	must(e)
	return printed(api.NtFile{Net: n, Nodes: numbered("n", n.Nodes), Elems: numbered("e", len(n.Elems))})
}
