package probe_test

import (
	"fmt"
	"math"
	"slices"
	"sync"
	"testing"

	"pentode/api"
	"pentode/probe"
	"pentode/value"
)

// arguments are what all functions are called with.
type arguments struct {
	task     api.PbTask
	meter    api.PbMeter
	x        value.Num
	n, elem  int
	r        api.Range
	readings []api.Val
}

// answers are all results for some arguments, as one text.
func answers(a arguments) string {
	var all []any
	add := func(l ...any) { all = append(all, l...) }
	s, e := probe.Sense(a.meter, a.x)
	add(value.SpanText(s), e)
	x, e := probe.Reading(a.meter, a.x)
	add(value.Text(x), e)
	add(probe.Check(a.task))
	add(probe.Predict(a.task, a.n))
	add(probe.Dictionary(a.task))
	add(probe.Candidates(a.task, a.readings))
	add(probe.Pairs(a.task, a.n))
	add(probe.Choose(a.task, a.n))
	add(probe.Fit(a.task, a.elem, a.r, a.readings))
	return fmt.Sprint(all...)
}

// spoilt makes some of the arguments other ones, most of which are not valid.
func (a arguments) spoilt(which, w int, v api.Val) arguments {
	elems := a.task.Net.Elems
	at := w & math.MaxInt % len(elems)
	switch which {
	case 0:
		elems[at].Val = v
	case 1:
		a.task.Net.Nodes = w
	case 2:
		elems[at].Kind = w
	case 3:
		elems[at].Ref, elems[at].C = w, w
	case 4:
		a.task.Elems = append(a.task.Elems, w)
	case 5:
		a.task.Elems, a.task.Ranges = append(a.task.Elems, at), append(a.task.Ranges, api.Range{Lo: v, Hi: v})
	case 6:
		a.task.Outs[0] = w
	case 7:
		a.task.Outs, a.task.Meters = append(a.task.Outs, w), append(a.task.Meters, a.meter)
	case 8:
		a.task.Meters[0].Abs, a.meter.Abs = v, v
	case 9:
		a.task.Meters[0].Rel, a.meter.Rel = v, v
	case 10:
		a.task.Meters[0].Step, a.meter.Step = v, v
	case 11:
		a.task.Faults = append(a.task.Faults, api.PbFault{Elem: w, Range: a.r})
	case 12:
		a.task.Faults = append(a.task.Faults, api.PbFault{Elem: at, Range: api.Range{Lo: v, Hi: "7"}})
	case 13:
		a.n, a.elem = w, w
	case 14:
		a.r.Lo = v
	case 15:
		a.r.Hi = v
	case 16:
		a.readings[0] = v
	case 17:
		a.readings = append(a.readings, v)
	}
	return a
}

// anyArguments are of many kinds.
func anyArguments() []arguments {
	far := []int{0, 1, -1, 2, 5, 13, 20, 64, math.MaxInt, math.MinInt}
	odd := []api.Val{"", "1", "0", "-1/2", "9/10", "x", "1/0", "\xff", digits(200), digits(201), "1/" + digits(1000), "-" + digits(1000), digits(1001), digits(20000)}
	huge := arguments{readings: make([]api.Val, 3000)}
	huge.task = api.PbTask{
		Net:   api.Net{Elems: make([]api.Elem, 3000), Models: make([]api.Model, 3000)},
		Elems: make([]int, 3000), Ranges: make([]api.Range, 3000),
		Outs: make([]int, 3000), Meters: make([]api.PbMeter, 3000), Faults: make([]api.PbFault, 3000),
	}
	fewOuts := huge
	fewOuts.task.Outs, fewOuts.task.Meters = make([]int, 6), make([]api.PbMeter, 6)
	list := []arguments{{}, huge, fewOuts}
	g := newNumbers()
	for i := range 360 {
		a := arguments{task: g.task(3, 6, 6, 6, 4), meter: g.meter(), x: g.num(), n: g.below(4)}
		a.elem = g.below(len(a.task.Net.Elems))
		a.r = g.far(a.task.Net.Elems[a.elem])
		for range a.task.Outs {
			a.readings = append(a.readings, value.Text(g.num()))
		}
		list = append(list, a.spoilt(i%20, far[g.below(len(far))], odd[g.below(len(odd))]))
	}
	return list
}

func TestP10_11AnyArguments(t *testing.T) {
	list := anyArguments()
	var before, first []string
	for _, a := range list {
		before = append(before, fmt.Sprint(a))
		first = append(first, answers(a))
	}
	// Goroutines share the arguments: what changes one of them is found by the race detector, too.
	var group sync.WaitGroup
	for range 4 {
		group.Go(func() {
			for i, a := range list {
				if got := answers(a); got != first[i] {
					t.Errorf("the answers for %.200s are others", before[i])
				}
			}
		})
	}
	group.Wait()
	for i, a := range list {
		if now := fmt.Sprint(a); now != before[i] {
			t.Errorf("%.200s was changed to %.200s", before[i], now)
		}
	}
}

// Empty lists are as nil, and without parameters and faults there are answers, too.
func TestP10_11Empty(t *testing.T) {
	k := divider(t)
	k.Elems, k.Ranges, k.Faults = nil, nil, nil
	a := arguments{task: k, meter: k.Meters[0], n: 1, elem: 1, r: ranges("1 9")[0], readings: words("4 -4")}
	want := answers(a)
	a.task.Elems, a.task.Ranges, a.task.Faults, a.task.Net.Models = []int{}, []api.Range{}, []api.PbFault{}, []api.Model{}
	if got := answers(a); got != want {
		t.Errorf("the answers are %s, not %s", got, want)
	}
}

func TestP10_11ResultsAreNewMemory(t *testing.T) {
	a := arguments{task: divider(t), meter: meters("0 0 0")[0], x: value.Int(7), n: 1, elem: 1, r: ranges("1 9")[0], readings: words("4 -4")}
	// Behind the ends of the lists is something that has to stay as well, also if a fault makes one more parameter.
	a.task.Faults = append(a.task.Faults, faults(0, "1 2 3 4")...)
	a.task.Elems = append(slices.Clone(a.task.Elems), 7, 8, 9)[:2]
	a.task.Ranges = append(slices.Clone(a.task.Ranges), ranges("7 8 8 9")...)[:2]
	a.task.Outs = append(slices.Clone(a.task.Outs), 7)[:2]
	a.task.Faults = append(slices.Clone(a.task.Faults), faults(9, "8 8")...)[:4]
	a.readings = append(slices.Clone(a.readings), "7")[:2]
	behind := func() string {
		return fmt.Sprint(a, a.task.Elems[:5], a.task.Ranges[:4], a.task.Outs[:3], a.task.Faults[:5], a.readings[:3])
	}
	before, first := behind(), answers(a)
	p, e := probe.Predict(a.task, 1)
	d, f := probe.Dictionary(a.task)
	l, h := probe.Candidates(a.task, a.readings)
	if e != api.OK || f != api.OK || h != api.OK || len(l) == 0 {
		t.Fatal("there are no results")
	}
	for i, one := range d {
		rest := fmt.Sprint(d[i+1:])
		clear(one[:cap(one)])
		_ = append(one, ranges("1 2 3 4 5 6")...)
		if fmt.Sprint(d[i+1:]) != rest {
			t.Error("predictions share memory")
		}
	}
	clear(p[:cap(p)])
	clear(d[:cap(d)])
	clear(l[:cap(l)])
	if behind() != before || answers(a) != first {
		t.Error("results share memory with arguments, or with what is kept")
	}
}
