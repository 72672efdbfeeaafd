package wave_test

import (
	"fmt"
	"math"
	"sync"
	"testing"

	"pentode/api"
	"pentode/value"
	"pentode/wave"
)

// arguments are what all functions are called with.
type arguments struct {
	task     api.WvTask
	from, to api.Val
	x, y     []value.Num
	h, tol   value.Num
	bits     int
	steps    []api.WvStep
	a, b     int
	level    api.Val
	flow     api.Net
	box      []api.Range
	count    int
}

// answers are all results for some arguments, as one text.
func answers(a arguments) string {
	var all []any
	add := func(l ...any) { all = append(all, l...) }
	add(wave.Check(a.task))
	add(wave.At(a.task, a.from, a.to))
	r, e := wave.Residual(a.task.Net, a.x, a.y, a.h)
	add(show(r), e)
	p, e := wave.Power(a.task.Net, a.x, a.y, a.h)
	add(show(p), e)
	y, r, e := wave.Step(a.task.Net, a.x, a.h, a.tol, a.bits)
	add(show(y), show(r), e)
	add(wave.Run(a.task))
	add(wave.Cross(a.steps, a.task.Start, a.a, a.b, a.level))
	add(wave.Enclose(a.flow, a.box, a.to, a.count, a.bits))
	add(wave.Trap(a.flow, a.box))
	return fmt.Sprint(all...)
}

// spoilt makes some of the arguments other ones, most of which are not valid.
func (a arguments) spoilt(which, w int, v api.Val) arguments {
	elems := a.task.Net.Elems
	switch which {
	case 0:
		elems[w&math.MaxInt%len(elems)].Val = v
	case 1:
		a.task.Net.Nodes, a.flow.Nodes = w, w
	case 2:
		a.task.Sources = append(a.task.Sources, api.WvSource{Elem: w, Times: words("0"), Vals: words("1")})
	case 3:
		a.task.Sources = append(a.task.Sources, api.WvSource{Elem: len(elems) - 1, Times: []api.Val{"0", v}, Vals: []api.Val{v, "7"}})
	case 4:
		a.task.Switches = append(a.task.Switches, api.WvSwitch{Elem: w, Time: v})
	case 5:
		a.task.Start = append(a.task.Start[:len(a.task.Start)/2], v)
	case 6:
		a.task.Step, a.from = v, v
	case 7:
		a.task.End, a.to = v, v
	case 8:
		a.task.Tol = v
	case 9:
		a.task.Bits, a.bits = w, w
	case 10:
		a.x = append(a.x, value.Int(int64(w)))
	case 11:
		a.y = a.y[:len(a.y)/2]
	case 12:
		a.h, a.tol = value.Int(int64(w)), value.Int(int64(-w))
	case 13:
		a.steps = append(a.steps, api.WvStep{Time: v, H: v})
	case 14:
		a.a, a.count = w, w
	case 15:
		a.b, a.level = w, v
	case 16:
		a.box = append(a.box, api.Range{Lo: v, Hi: v})
	case 17:
		a.flow.Elems[0].Kind, elems[0].Kind = w, w
	case 18:
		for k := range a.box {
			a.box[k] = api.Range{Lo: v, Hi: v}
		}
	}
	return a
}

// anyArguments are of many kinds.
func anyArguments() []arguments {
	far := []int{0, 1, -1, 2, 5, 13, 61, 201, 400, math.MaxInt, math.MinInt}
	odd := []api.Val{"", "1", "0", "-1/2", "x", "1/0", "\xff", digits(1000), "1/" + digits(1000), "-" + digits(1000), digits(1001), digits(20000)}
	huge := arguments{x: make([]value.Num, 3000), y: make([]value.Num, 3000), steps: make([]api.WvStep, 3000), box: make([]api.Range, 3000)}
	huge.task = api.WvTask{
		Net: api.Net{Elems: make([]api.Elem, 3000), Models: make([]api.Model, 3000)}, Sources: make([]api.WvSource, 3000), Switches: make([]api.WvSwitch, 3000),
	}
	list := []arguments{{}, huge, {flow: api.Net{Nodes: 1}, task: api.WvTask{Net: api.Net{Nodes: 12}, Start: make([]api.Val, 12)}}}
	g := newNumbers()
	for i := range 400 {
		a := arguments{task: g.task(g.below(4), 1+g.below(8), 4), flow: g.flowing(1+g.below(2), g.below(5), 3)}
		a.x, a.y, a.h, a.tol = g.nums(size(a.task.Net)), g.nums(size(a.task.Net)), g.above(), over(value.Int(1), value.Int(int64(1+g.below(9))))
		a.from, a.to = value.Text(g.num()), value.Text(over(g.above(), value.Int(50)))
		a.bits, a.count, a.box = 4+g.below(40), 1+g.below(3), g.ranges(a.flow.Nodes)
		a.steps = g.steps(g.below(9), a.task.Net.Nodes)
		a.a, a.b, a.level = g.below(a.task.Net.Nodes+1), g.below(a.task.Net.Nodes+1), value.Text(g.num())
		if len(a.task.Net.Elems) == 0 {
			continue
		}
		list = append(list, a.spoilt(i%24, far[g.below(len(far))], odd[g.below(len(odd))]))
	}
	return list
}

func TestP6_13AnyArguments(t *testing.T) {
	list := anyArguments()
	var before, first []string
	for _, a := range list {
		before = append(before, fmt.Sprint(a))
		first = append(first, answers(a))
	}
	// Goroutines share the arguments: what changes one of them is found by the race detector, too.
	var group sync.WaitGroup
	for range 4 {
		group.Go(func() {
			for i, a := range list {
				if got := answers(a); got != first[i] {
					t.Errorf("the answers for %.200s are others", before[i])
				}
			}
		})
	}
	group.Wait()
	for i, a := range list {
		if now := fmt.Sprint(a); now != before[i] {
			t.Errorf("%.200s was changed to %.200s", before[i], now)
		}
	}
}

// wipe changes a list, also what could be behind its end.
func wipe[T any](list []T) {
	clear(list[:cap(list)])
}

// wipeEach changes lists one by one, each of which has to leave the other ones.
func wipeEach[T any](t *testing.T, name string, lists ...[]T) {
	t.Helper()
	for i, list := range lists {
		rest := fmt.Sprint(lists[:i], lists[i+1:])
		wipe(list)
		_ = append(list, make([]T, 3)...)
		if fmt.Sprint(lists[:i], lists[i+1:]) != rest {
			t.Errorf("the lists of %s share memory", name)
		}
	}
}

func TestP6_13ResultsAreNewMemory(t *testing.T) {
	task := switched(t)
	task.Net.Models = []api.Model{{Kind: api.MdCurve, Breaks: words("0 1"), Pieces: [][]api.Val{words("0 1"), words("0 1"), words("0 1")}}}
	task.Net.Elems = append(task.Net.Elems, api.Elem{Kind: api.ElD, A: 1})
	task.Tol = "1/10"
	run, _ := wave.Run(task)
	a := arguments{
		task: task, from: "1/2", to: "1/8", x: nums(t, "1 2 3"), y: nums(t, "3 2 1"), h: num(t, "1/2"), tol: num(t, "9"), bits: 20,
		steps: run, a: 1, b: 2, level: "-3", flow: decay(t), box: ranges("0 1"), count: 3,
	}
	before, first := fmt.Sprint(a), answers(a)
	for range 2 {
		n, _ := wave.At(task, "1", "2")
		for i, m := range n.Models {
			wipeEach(t, "a model", append(m.Pieces, m.Breaks)...)
			wipe(m.Pieces)
			n.Models[i] = api.Model{}
		}
		wipe(n.Models)
		wipe(n.Elems)
		r, _ := wave.Residual(task.Net, a.x, a.y, a.h)
		wipe(r)
		p, _ := wave.Power(task.Net, a.x, a.y, a.h)
		wipe(p)
		y, r, e := wave.Step(task.Net, a.x, a.h, num(t, "1000"), 20) // which is accepted at once
		if e != api.OK || show(y) != show(a.x) {
			t.Fatalf("Step = %s, %d", show(y), e)
		}
		wipeEach(t, "Step", y, r)
		l, _ := wave.Run(task)
		var lists [][]api.Val
		for _, s := range l {
			lists = append(lists, s.X, s.Residual)
		}
		wipeEach(t, "Run", lists...)
		wipe(l)
		c, _ := wave.Cross(a.steps, task.Start, 1, 2, "-3")
		wipe(c)
		boxes, _ := wave.Enclose(a.flow, a.box, "1/8", 3, 20)
		wipeEach(t, "Enclose", boxes...)
		wipe(boxes)
		if len(c) == 0 || len(boxes) != 3 || len(l) == 0 {
			t.Fatal("there are no results")
		}
	}
	if fmt.Sprint(a) != before || answers(a) != first {
		t.Error("results share memory with arguments, or with what is kept")
	}
}
