package symbol_test

import (
	"fmt"
	"math"
	"strings"
	"sync"
	"testing"

	"pentode/api"
	"pentode/symbol"
	"pentode/value"
)

// arguments are what all functions are called with.
type arguments struct {
	p, q    []api.SyTerm
	vars, v int
	x       []value.Num
	box     []value.Span
	eps     value.Num
	task    api.SyTask
	nodes   [4]int
	a, b    api.SyPort
	kind    int
}

// answers are all results for some arguments, as one text.
func answers(a arguments) string {
	var all []any
	add := func(l ...any) { all = append(all, l...) }
	add(symbol.Check(a.p, a.vars))
	add(symbol.Canon(a.p, a.vars))
	add(symbol.Add(a.p, a.q, a.vars))
	add(symbol.Mul(a.p, a.q, a.vars))
	add(symbol.Diff(a.p, a.vars, a.v))
	x, e := symbol.Eval(a.p, a.x)
	add(value.Text(x), e)
	s, e := symbol.Reach(a.p, a.box)
	add(showSpan(s), e)
	m, right, e := symbol.Matrix(a.task)
	add(m, show(right), e)
	add(symbol.Transfer(a.task))
	n, d, e := symbol.Ratio(a.task)
	add(show(n), show(d), e)
	add(symbol.Sense(a.p, a.q, a.vars, a.v))
	x, e = symbol.Low(a.p, a.box)
	add(value.Text(x), e)
	q, x, e := symbol.Drop(a.p, a.box, a.eps)
	add(q, value.Text(x), e)
	top, bottom, x, e := symbol.Simplify(a.p, a.q, a.box, a.eps)
	add(top, bottom, value.Text(x), e)
	add(symbol.Port(a.task.Net, a.nodes))
	add(symbol.Normal(a.a))
	add(symbol.Convert(a.a, a.kind))
	add(symbol.Join(a.a, a.b, a.kind))
	add(symbol.Reciprocal(a.b))
	return fmt.Sprint(all...)
}

// spoilt makes some of the arguments other ones, most of which are not valid.
func (a arguments) spoilt(which, w int, v api.Val) arguments {
	elems := a.task.Net.Elems
	switch which {
	case 0:
		elems[w&math.MaxInt%len(elems)].Val = v
	case 1:
		a.task.Net.Nodes = w
	case 2:
		a.task.Syms = append(a.task.Syms, w, 0, w)
	case 3:
		a.task.In = w
	case 4:
		a.task.Out = w
	case 5:
		elems[0].Kind, elems[0].Ref = w, w
	case 6:
		a.p = append(a.p, api.SyTerm{Coef: v, Pows: make([]int, max(0, min(a.vars, 9)))})
	case 7:
		a.q = append(a.q, api.SyTerm{Coef: "1", Pows: []int{w, w}})
	case 8:
		a.vars = w
	case 9:
		a.v, a.kind = w, w
	case 10:
		a.x, a.box = a.x[:len(a.x)/2], nil
	case 11:
		a.nodes[w&3] = w
	case 12:
		a.a.D = append(a.a.D, v)
	case 13:
		a.a.N[w&3] = append(a.a.N[w&3], v, v)
	case 14:
		a.b.Kind = w
	case 15:
		a.a.D = nil
	case 16:
		a.eps = value.Int(int64(w))
	}
	return a
}

// anyArguments are of many kinds.
func anyArguments() []arguments {
	far := []int{0, 1, -1, 2, 5, 9, 13, 61, 400, math.MaxInt, math.MinInt}
	odd := []api.Val{"", "1", "0", "-1/2", "x", "1/0", "\xff", digits(1000), "1/" + digits(1000), digits(1001), digits(20000), api.Val(strings.Repeat("7", 1000))}
	huge := arguments{p: make([]api.SyTerm, 3000), q: make([]api.SyTerm, 3000), x: make([]value.Num, 3000), box: make([]value.Span, 3000), vars: 3000}
	huge.task = api.SyTask{Net: api.Net{Elems: make([]api.Elem, 3000)}, Syms: make([]int, 3000)}
	huge.a = api.SyPort{Kind: 1, D: make([]api.Val, 3000)}
	wide := arguments{vars: 8, x: make([]value.Num, 8), box: make([]value.Span, 8), p: []api.SyTerm{{Coef: "1", Pows: []int{40, 40, 40, 40, 40, 40, 40, 40}}}}
	list := []arguments{{}, huge, wide}
	g := newNumbers()
	for i := range 400 {
		vars := 1 + g.below(3)
		a := arguments{
			p: g.terms(g.below(8), vars, 5), q: g.terms(g.below(8), vars, 5), vars: vars, v: g.below(vars), x: g.nums(vars), box: g.positive(vars),
			eps: g.near(), task: g.task(5, 4), a: g.port(2), b: g.port(2), kind: g.below(8),
		}
		for k := range a.nodes {
			a.nodes[k] = g.below(a.task.Net.Nodes + 1)
		}
		list = append(list, a.spoilt(i%20, far[g.below(len(far))], odd[g.below(len(odd))]))
	}
	return list
}

func TestP5_13AnyArguments(t *testing.T) {
	list := anyArguments()
	var before, first []string
	for _, a := range list {
		before = append(before, fmt.Sprint(a))
		first = append(first, answers(a))
	}
	// Goroutines share the arguments: what changes one of them is found by the race detector, too.
	var group sync.WaitGroup
	for range 4 {
		group.Go(func() {
			for i, a := range list {
				if got := answers(a); got != first[i] {
					t.Errorf("the answers for %.200s are others", before[i])
				}
			}
		})
	}
	group.Wait()
	for i, a := range list {
		if now := fmt.Sprint(a); now != before[i] {
			t.Errorf("%.200s was changed to %.200s", before[i], now)
		}
	}
}

// wipe changes a list, also what could be behind its end.
func wipe[T any](list []T) {
	clear(list[:cap(list)])
}

// wipeEach changes lists one by one, each of which has to leave the other ones.
func wipeEach[T any](t *testing.T, name string, lists ...[]T) {
	t.Helper()
	for i, list := range lists {
		rest := fmt.Sprint(lists[:i], lists[i+1:])
		wipe(list)
		_ = append(list, make([]T, 3)...)
		if fmt.Sprint(lists[:i], lists[i+1:]) != rest {
			t.Errorf("the lists of %s share memory", name)
		}
	}
}

// wipeTerms changes polynomials term by term.
func wipeTerms(t *testing.T, name string, polynomials ...[]api.SyTerm) {
	t.Helper()
	var pows [][]int
	for _, p := range polynomials {
		for _, term := range p {
			pows = append(pows, term.Pows)
		}
	}
	wipeEach(t, name, pows...)
	wipeEach(t, name, polynomials...)
}

func TestP5_13ResultsAreNewMemory(t *testing.T) {
	eps, _ := value.Ratio(1, 2)
	a := arguments{
		p: terms("9 0 1, 4 2 0, 5 1 1"), q: terms("7 0 1, 1 1 0"), vars: 2, x: nums(t, "2 3"), box: spans(t, "1 2 1 2"), eps: eps,
		task: divider(t), nodes: [4]int{1, 0, 2, 0}, a: port(1, "1 2; 3; 4; 5 6; 7"), b: port(5, "1 1; ; ; 1; 1"), kind: api.PoA,
	}
	before, first := fmt.Sprint(a), answers(a)
	for range 2 {
		p, _ := symbol.Canon(a.p, 2)
		wipeTerms(t, "Canon", p)
		p, _ = symbol.Add(a.p, nil, 2)
		wipeTerms(t, "Add", p)
		p, _ = symbol.Mul(a.p, terms("1 0 0"), 2)
		wipeTerms(t, "Mul", p)
		p, _ = symbol.Diff(a.p, 2, 0)
		wipeTerms(t, "Diff", p)
		m, right, _ := symbol.Matrix(a.task)
		var entries [][]api.SyTerm
		for _, row := range m {
			entries = append(entries, row...)
		}
		wipeTerms(t, "Matrix", entries...)
		for _, row := range m {
			wipe(row)
		}
		wipeEach(t, "Matrix", m...)
		wipe(right)
		p, q, _ := symbol.Transfer(a.task)
		wipeTerms(t, "Transfer", p, q)
		n, d, _ := symbol.Ratio(a.task)
		wipeEach(t, "Ratio", n, d)
		p, q, _ = symbol.Sense(a.p, a.q, 2, 0)
		wipeTerms(t, "Sense", p, q)
		p, _, _ = symbol.Drop(a.p, a.box, a.eps)
		wipeTerms(t, "Drop", p)
		p, q, _, _ = symbol.Simplify(a.p, a.q, a.box, a.eps)
		wipeTerms(t, "Simplify", p, q)
		for _, do := range []func() (api.SyPort, api.Errno){
			func() (api.SyPort, api.Errno) { return symbol.Port(a.task.Net, [4]int{2, 0, 2, 0}) },
			func() (api.SyPort, api.Errno) { return symbol.Normal(a.a) },
			func() (api.SyPort, api.Errno) { return symbol.Normal(port(1, "1; 1; 1; 1; 1")) },
			func() (api.SyPort, api.Errno) { return symbol.Convert(a.a, api.PoZ) },
			func() (api.SyPort, api.Errno) { return symbol.Convert(a.a, api.PoH) },
			func() (api.SyPort, api.Errno) { return symbol.Join(a.a, a.b, api.PoA) },
		} {
			p, e := do()
			if e != api.OK {
				t.Fatal(e)
			}
			wipeEach(t, "a two-port", p.N[0], p.N[1], p.N[2], p.N[3], p.D)
		}
	}
	if fmt.Sprint(a) != before || answers(a) != first {
		t.Error("results share memory with arguments, or with what is kept")
	}
}
