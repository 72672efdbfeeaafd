package points_test

import (
	"fmt"
	"math"
	"slices"
	"sync"
	"testing"

	"pentode/api"
	"pentode/points"
	"pentode/value"
)

// arguments are what all functions are called with.
type arguments struct {
	n            api.Net
	x            []value.Num
	spans        []value.Span
	inv          [][]value.Num
	box          []api.Range
	q            api.PtProof
	plan         api.PtPlan
	bits, rounds int
}

// answers are all results for some arguments, as one text.
func answers(a arguments) string {
	var all []any
	add := func(l ...any) { all = append(all, l...) }
	add(points.Size(a.n))
	x, e := points.Residual(a.n, a.x)
	add(show(x), e)
	s, e := points.Reach(a.n, a.spans)
	add(showSpans(s), e)
	m, e := points.Slopes(a.n, a.spans)
	add(showSpanRows(m), e)
	x, e = points.Solve(a.inv, a.x)
	add(show(x), e)
	y, e := points.Inverse(a.inv)
	add(showRows(y), e)
	s, e = points.Krawczyk(a.n, a.spans, a.x, a.inv)
	add(showSpans(s), e)
	add(points.Check(a.n, a.box, a.q))
	add(points.Boxes(a.n, a.box, a.q))
	add(points.Derive(a.n, a.box, a.plan))
	add(points.Narrow(a.n, a.box, a.bits, a.rounds))
	y, e = points.Exact(a.n)
	add(showRows(y), e)
	add(points.Small(a.n, a.x))
	x, e = points.Char(a.n)
	add(show(x), e)
	add(points.Stable(a.n, a.x))
	return fmt.Sprint(all...)
}

// anyArguments are of many kinds, many of them not valid.
func anyArguments() []arguments {
	far := []int{0, 1, -1, 2, 5, 13, 61, 400, math.MaxInt, math.MinInt}
	odd := []api.Val{"", "1", "0", "-1/2", "x", "1/0", "\xff", digits(1000), "1/" + digits(1000), digits(1001), digits(20000)}
	g := newNumbers()
	list := []arguments{{}, {n: api.Net{Nodes: 1}}, {inv: make([][]value.Num, 3000), box: make([]api.Range, 3000), x: make([]value.Num, 3000), spans: make([]value.Span, 3000)},
		{n: api.Net{Elems: make([]api.Elem, 3000), Models: make([]api.Model, 3000)}, q: api.PtProof{Items: make([]api.PtItem, 3000)}}}
	for i := range 250 {
		n := g.small(g.below(3), g.below(8), 3, all...)
		if choices(n) > 20 {
			continue
		}
		for node := 1; node <= n.Nodes; node++ {
			n.Elems = append(n.Elems, api.Elem{Kind: api.ElR, A: node, Val: g.above()})
		}
		size, _ := points.Size(n)
		a := arguments{
			n: n, x: g.nums(size), spans: g.spans(size), inv: g.matrix(size), box: g.wide(size),
			plan: api.PtPlan{Bits: 4 + g.below(20), Items: 1 + g.below(30)}, bits: 4 + g.below(20), rounds: g.below(5),
		}
		a.q, _ = points.Derive(a.n, a.box, a.plan)
		if len(a.q.Items) > 0 && g.below(2) == 0 {
			g.spoil(&a.q)
		}
		for k, s := range a.spans {
			if g.below(9) > 0 {
				a.x[k] = g.inside(s)
			}
		}
		v, w := odd[g.below(len(odd))], far[g.below(len(far))]
		switch i % 16 {
		case 0:
			a.n.Elems[g.below(len(a.n.Elems)+1)%max(1, len(a.n.Elems))].Val = v
		case 1:
			a.n.Models[g.below(4)].Pieces = [][]api.Val{{v, v}}
		case 2:
			a.n.Nodes = w
		case 3:
			a.x = append(a.x, value.Int(1))
		case 4:
			a.spans = a.spans[:len(a.spans)/2]
		case 5:
			a.box = append(a.box, api.Range{Lo: v, Hi: v})
		case 6:
			a.plan.Bits, a.bits = w, w
		case 7:
			a.plan.Items, a.rounds = w, w%4
		case 8:
			a.inv = append(a.inv, a.x)
		case 9:
			a.q.Items = append(a.q.Items, api.PtItem{Kind: w, Var: w, Eq: w, At: v, Mid: []api.Val{v}, Inv: [][]api.Val{{v}}, Box: []api.Range{{Lo: v}}})
		case 10:
			for k := range a.q.Items {
				a.q.Items[k].Var, a.q.Items[k].Eq = w, w
			}
		case 11:
			for k := range a.q.Items {
				a.q.Items[k].At = v
			}
		case 12:
			for k := range a.box {
				a.box[k] = api.Range{Lo: v, Hi: v}
			}
		}
		list = append(list, a)
	}
	return list
}

func TestP4_15AnyArguments(t *testing.T) {
	list := anyArguments()
	var before, first []string
	for _, a := range list {
		before = append(before, fmt.Sprint(a))
		first = append(first, answers(a))
	}
	// Goroutines share the arguments: what changes one of them is found by the race detector, too.
	var group sync.WaitGroup
	for range 4 {
		group.Go(func() {
			for i, a := range list {
				if got := answers(a); got != first[i] {
					t.Errorf("the answers for %.200s are others", before[i])
				}
			}
		})
	}
	group.Wait()
	for i, a := range list {
		if now := fmt.Sprint(a); now != before[i] {
			t.Errorf("%.200s was changed to %.200s", before[i], now)
		}
	}
}

// wipe changes a list, also what could be behind its end.
func wipe[T any](list []T) {
	clear(list[:cap(list)])
}

// wipeRows changes rows one by one, each of which has to leave the other ones.
func wipeRows[T any](t *testing.T, name string, rows [][]T) {
	t.Helper()
	for i, row := range rows {
		rest := fmt.Sprint(rows[:i], rows[i+1:])
		wipe(row)
		_ = append(row, make([]T, 3)...)
		if fmt.Sprint(rows[:i], rows[i+1:]) != rest {
			t.Errorf("the rows of %s share memory", name)
		}
	}
	wipe(rows)
}

func TestP4_15ResultsAreNewMemory(t *testing.T) {
	n := latch(t)
	n.Models = append(n.Models, api.Model{Kind: api.MdCurve, Pieces: [][]api.Val{{"0", "1"}}})
	n.Elems = append(n.Elems, api.Elem{Kind: api.ElQ, A: 1, Model: 1}, api.Elem{Kind: api.ElD, A: 1, Model: 1})
	linear := read(t, "r r1 1 0 1", "c c1 1 0 1", "r r2 1 2 1", "r r3 2 0 1")
	a := arguments{n: n, x: nums(t, "1 2"), spans: spans(t, "0 2 1 3"), inv: rows(t, "1 2 / 3 4"), box: ranges("0 6 0 6"), plan: api.PtPlan{Bits: 8, Items: 400}, bits: 8, rounds: 3}
	a.q, _ = points.Derive(n, a.box, a.plan)
	before, first := fmt.Sprint(a, linear), answers(a)
	for range 2 {
		x, _ := points.Residual(n, a.x)
		wipe(x)
		s, _ := points.Reach(n, a.spans)
		wipe(s)
		m, _ := points.Slopes(n, a.spans)
		wipeRows(t, "Slopes", m)
		x, _ = points.Solve(a.inv, a.x)
		wipe(x)
		y, _ := points.Inverse(a.inv)
		wipeRows(t, "Inverse", y)
		s, _ = points.Krawczyk(n, a.spans, a.x, a.inv)
		wipe(s)
		boxes, _ := points.Boxes(n, a.box, a.q)
		wipeRows(t, "Boxes", boxes)
		q, _ := points.Derive(n, a.box, a.plan)
		for i, it := range q.Items {
			rest := fmt.Sprint(q.Items[:i], q.Items[i+1:])
			wipe(it.Mid)
			wipe(it.Box)
			wipeRows(t, "Inv", it.Inv)
			if fmt.Sprint(q.Items[:i], q.Items[i+1:]) != rest {
				t.Error("the items of Derive share memory")
			}
		}
		wipe(q.Items)
		l, _ := points.Narrow(n, a.box, 8, 0)
		wipe(l)
		y, _ = points.Exact(linear)
		wipeRows(t, "Exact", y)
		small, _ := points.Small(n, a.x)
		wipe(small.Elems)
		small, _ = points.Small(linear, a.x)
		wipe(small.Elems)
		x, _ = points.Char(linear)
		wipe(x)
		if fmt.Sprint(a, linear) != before || answers(a) != first {
			t.Fatal("a result shares memory with an argument, or is kept")
		}
	}
}

// All of the largest size: twelve unknowns, sixty elements, and values of many digits.
func TestP4_15LargeNets(t *testing.T) {
	g := newNumbers()
	n := api.Net{Nodes: 12, Models: []api.Model{g.curve(4), {Kind: api.MdSquare, Kp: "3/7", Vt: "2/9"}, g.curve(2)}}
	long := func() api.Val {
		return api.Val(string(digits(1+g.below(20))) + "/" + string(digits(2 + g.below(20))[:1]+"7"))
	}
	for i := range 60 {
		e := api.Elem{Kind: api.ElR, A: 1 + g.below(12), B: g.below(13), Val: long()}
		switch i % 6 {
		case 0:
			e = api.Elem{Kind: api.ElD, A: e.A, B: e.B, Model: 0}
		case 1:
			e = api.Elem{Kind: api.ElM, A: e.A, B: e.B, C: g.below(13), Model: 1}
		case 2:
			e = api.Elem{Kind: api.ElR, A: 1 + i/6, Val: e.Val}
		case 3:
			e = api.Elem{Kind: api.ElI, A: e.A, B: e.B, Val: long()}
		}
		n.Elems = append(n.Elems, e)
	}
	box := slices.Repeat(ranges("-7/3 5/2"), 12)
	q, e := points.Derive(n, box, api.PtPlan{Bits: 200, Items: 20})
	want, wantE := derive(n, box, api.PtPlan{Bits: 200, Items: 20})
	if fmt.Sprint(q) != fmt.Sprint(want) || e != wantE {
		t.Errorf("Derive = %.200v, %d, not %d", q, e, wantE)
	}
	l, e := points.Narrow(n, box, 200, 3)
	wantL, wantE := narrow(n, box, 200, 3)
	if showRanges(l) != showRanges(wantL) || e != wantE {
		t.Errorf("Narrow = %.200s, %d, not %d", showRanges(l), e, wantE)
	}
}
