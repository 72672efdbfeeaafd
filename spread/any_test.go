package spread_test

import (
	"fmt"
	"math"
	"slices"
	"sync"
	"testing"

	"pentode/api"
	"pentode/spread"
	"pentode/value"
)

// arguments are what all functions are called with.
type arguments struct {
	task api.SpTask
	x    []value.Num
	mask int
	spec api.Range
	n    int
}

// answers are all results for some arguments, as one text.
func answers(a arguments) string {
	var all []any
	add := func(l ...any) { all = append(all, l...) }
	texts := func(e api.Errno, list ...value.Num) { add(show(list), e) }
	add(spread.Check(a.task))
	x, e := spread.At(a.task, a.x)
	texts(e, x)
	x, e = spread.Vertex(a.task, a.mask)
	texts(e, x)
	add(spread.Regular(a.task))
	add(spread.Worst(a.task))
	l, e := spread.Adjoint(a.task, a.x)
	texts(e, l...)
	l, e = spread.Slopes(a.task, a.x)
	texts(e, l...)
	x, y, e := spread.Variance(a.task)
	texts(e, x, y)
	add(spread.Yield(a.task, a.spec, a.n))
	add(spread.Count(a.task, a.spec, a.n))
	x, e = spread.Scale(a.task, a.spec, a.n)
	texts(e, x)
	return fmt.Sprint(all...)
}

// spoilt makes some of the arguments other ones, most of which are not valid.
func (a arguments) spoilt(which, w int, v api.Val) arguments {
	elems := a.task.Net.Elems
	at := w & math.MaxInt % len(elems)
	switch which {
	case 0:
		elems[at].Val = v
	case 1:
		a.task.Net.Nodes = w
	case 2:
		elems[at].Kind = w
	case 3:
		elems[at].Ref, elems[at].C = w, w
	case 4:
		a.task.Elems = append(a.task.Elems, w)
	case 5:
		a.task.Elems, a.task.Ranges = append(a.task.Elems, at), append(a.task.Ranges, api.Range{Lo: v, Hi: v})
	case 6:
		a.task.Ranges = append(a.task.Ranges[:len(a.task.Ranges)/2], api.Range{Lo: v, Hi: "7"})
	case 7:
		a.task.Out = w
	case 8:
		a.x = append(a.x, value.Int(int64(w)))
	case 9:
		for i := range a.x {
			a.x[i] = value.Int(int64(w))
		}
	case 10:
		a.mask = w
	case 11:
		a.spec.Lo = v
	case 12:
		a.spec.Hi = v
	case 13:
		a.n = w
	case 14:
		for i := range a.task.Ranges {
			a.task.Ranges[i].Hi = v
		}
	}
	return a
}

// anyArguments are of many kinds.
func anyArguments() []arguments {
	far := []int{0, 1, -1, 2, 5, 13, 61, 201, 4097, math.MaxInt, math.MinInt}
	odd := []api.Val{"", "1", "0", "-1/2", "x", "1/0", "\xff", digits(200), digits(201), digits(1000), "1/" + digits(1000), "-" + digits(1000), digits(1001), digits(20000)}
	huge := arguments{x: make([]value.Num, 3000)}
	huge.task = api.SpTask{
		Net: api.Net{Elems: make([]api.Elem, 3000), Models: make([]api.Model, 3000)}, Elems: make([]int, 3000), Ranges: make([]api.Range, 3000),
	}
	list := []arguments{{}, huge, {task: api.SpTask{Net: api.Net{Nodes: 12}}, spec: span("0 1"), n: 1}}
	g := newNumbers()
	for i := range 400 {
		a := arguments{task: g.task(g.below(5), 1+g.below(8), g.below(6)), spec: value.SpanText(value.SpanJoin(value.Point(g.num()), value.Point(g.num())))}
		a.x, a.n = g.anywhere(a.task), g.below(7)
		a.mask = g.below(1 << len(a.x))
		list = append(list, a.spoilt(i%20, far[g.below(len(far))], odd[g.below(len(odd))]))
	}
	return list
}

func TestP7_13AnyArguments(t *testing.T) {
	list := anyArguments()
	var before, first []string
	for _, a := range list {
		before = append(before, fmt.Sprint(a))
		first = append(first, answers(a))
	}
	// Goroutines share the arguments: what changes one of them is found by the race detector, too.
	var group sync.WaitGroup
	for range 4 {
		group.Go(func() {
			for i, a := range list {
				if got := answers(a); got != first[i] {
					t.Errorf("the answers for %.200s are others", before[i])
				}
			}
		})
	}
	group.Wait()
	for i, a := range list {
		if now := fmt.Sprint(a); now != before[i] {
			t.Errorf("%.200s was changed to %.200s", before[i], now)
		}
	}
}

func TestP7_13ResultsAreNewMemory(t *testing.T) {
	a := arguments{task: divider(t), x: nums(t, "2 1"), mask: 1, spec: span("4 8"), n: 5}
	// Behind the ends of the lists is something that has to stay as well.
	a.task.Elems = append(slices.Clone(a.task.Elems), 7, 8, 9)[:2]
	a.task.Ranges = append(slices.Clone(a.task.Ranges), ranges("7 8")...)[:2]
	a.task.Net.Elems = append(slices.Clone(a.task.Net.Elems), api.Elem{Kind: 7})[:3]
	behind := func() string {
		return fmt.Sprint(a, a.task.Elems[:5], a.task.Ranges[:3], a.task.Net.Elems[:4])
	}
	before, first := behind(), answers(a)
	for range 2 {
		for _, f := range []func(api.SpTask, []value.Num) ([]value.Num, api.Errno){spread.Adjoint, spread.Slopes} {
			l, e := f(a.task, a.x)
			if e != api.OK || len(l) == 0 {
				t.Fatal("there are no results")
			}
			clear(l[:cap(l)])
			_ = append(l, make([]value.Num, 3)...)
		}
	}
	if behind() != before || answers(a) != first {
		t.Error("results share memory with arguments, or with what is kept")
	}
}
