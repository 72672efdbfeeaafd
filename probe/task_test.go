package probe_test

import (
	"math"
	"slices"
	"testing"

	"pentode/api"
	"pentode/probe"
)

// every is a task whose net has elements of all kinds: the resistor 0, the capacitor 1, the inductor 2, the sources 3 to 8, the
// closed switch 9, the open one 10, and more resistors. It has 2 nodes and 4 currents of their own.
func every(t testing.TB) api.PbTask {
	t.Helper()
	return api.PbTask{
		Net: read(t, "r r 1 0 1; c c 1 2 1; l l 2 0 1; v v 1 0 1; i i 1 0 1; e e 1 2 1 0 1; g g 1 2 1 0 1; f f 1 2 v 1; h h 2 0 v 1; "+
			"s s 1 2 on 1; s o 1 2 off 1; r r1 1 2 1; r r2 1 2 1; r r3 1 2 1"),
		Elems:  []int{0, 6},
		Ranges: ranges("1 2 -1 1"),
		Outs:   []int{0, 5, 2},
		Meters: meters("1 0 0 0 1/2 0 0 0 1"),
		Faults: append(faults(0, "100 1000"), faults(3, "0 0 -1 1")...),
	}
}

// fault puts one more fault behind the others.
func fault(elem int, lo, hi api.Val) func(*api.PbTask) {
	return func(k *api.PbTask) {
		k.Faults = append(k.Faults, api.PbFault{Elem: elem, Range: api.Range{Lo: lo, Hi: hi}})
	}
}

// full makes all parameters that there can be.
func full(k *api.PbTask) {
	k.Elems, k.Ranges = []int{0, 3, 4, 5, 6, 7}, slices.Repeat(ranges("1 2"), 6)
}

// both makes two changes.
func both(f, g func(*api.PbTask)) func(*api.PbTask) {
	return func(k *api.PbTask) {
		f(k)
		g(k)
	}
}

// change is a change of a task, and the error that this has then.
type change struct {
	make func(k *api.PbTask)
	e    api.Errno
}

func outChanges() []change {
	return []change{
		{func(k *api.PbTask) {}, api.OK},
		{func(k *api.PbTask) { k.Outs, k.Meters = []int{0, 1, 2, 3, 4, 5}, slices.Repeat(k.Meters[:1], 6) }, api.OK},
		{func(k *api.PbTask) { k.Outs, k.Meters = []int{5}, k.Meters[:1] }, api.OK},
		{func(k *api.PbTask) { k.Outs, k.Meters = nil, nil }, api.ErrRange},
		{func(k *api.PbTask) { k.Outs = []int{} }, api.ErrRange},
		{func(k *api.PbTask) { k.Outs, k.Meters = []int{0, 1, 2, 3, 4, 5, 5}, nil }, api.ErrRange},
		{func(k *api.PbTask) { k.Outs, k.Net.Elems[0].Val = make([]int, 7), "x" }, api.ErrRange},
		{func(k *api.PbTask) { *k = api.PbTask{} }, api.ErrRange},
		{func(k *api.PbTask) { k.Meters, k.Net.Elems[0].Val = k.Meters[:2], "0" }, api.ErrArg},
		{func(k *api.PbTask) { k.Meters, k.Outs[0] = nil, -1 }, api.ErrArg},
		{func(k *api.PbTask) { k.Meters = append(k.Meters, k.Meters[0]) }, api.ErrArg},

		{func(k *api.PbTask) { k.Outs[0] = 6 }, api.ErrRange},
		{func(k *api.PbTask) { k.Outs[0], k.Outs[1], k.Outs[2] = -1, -1, -1 }, api.ErrRange},
		{func(k *api.PbTask) { k.Outs[1] = 6 }, api.ErrRange},
		{func(k *api.PbTask) { k.Outs[2] = -1 }, api.ErrRange},
		{func(k *api.PbTask) { k.Outs[2] = math.MaxInt }, api.ErrRange},
		{func(k *api.PbTask) { k.Outs[1] = math.MinInt }, api.ErrRange},
		{func(k *api.PbTask) { k.Outs[1] = 0 }, api.ErrArg},
		{func(k *api.PbTask) { k.Outs[2] = 5 }, api.ErrArg},
		{func(k *api.PbTask) { k.Outs[1], k.Outs[2] = 0, 99 }, api.ErrArg},
		{func(k *api.PbTask) { k.Outs[1], k.Outs[2] = 99, 0 }, api.ErrRange},
		{func(k *api.PbTask) { k.Outs[1], k.Outs[2] = 99, 99 }, api.ErrRange},
		{func(k *api.PbTask) { k.Outs[2], k.Meters[0].Abs = 0, "x" }, api.ErrArg},
		{func(k *api.PbTask) { k.Outs[2], k.Meters[0].Abs = 6, "x" }, api.ErrRange},
	}
}

// wholeChanges are those after which the task without a fault is not valid.
func wholeChanges() []change {
	elem := func(e api.Elem) func(*api.PbTask) { return func(k *api.PbTask) { k.Net.Elems[1] = e } }
	return []change{
		{func(k *api.PbTask) { k.Net.Nodes = 21 }, api.ErrRange},
		{func(k *api.PbTask) { k.Net.Elems[0].Val = "x" }, api.ErrForm},
		{func(k *api.PbTask) { k.Net.Elems[0].Val = digits(1001) }, api.ErrLong},
		{func(k *api.PbTask) { k.Net.Elems = slices.Repeat(k.Net.Elems[:1], 61) }, api.ErrLong},
		{func(k *api.PbTask) {
			elem(api.Elem{Kind: api.ElD, A: 1})(k)
			k.Net.Models = []api.Model{{Kind: api.MdCurve, Pieces: [][]api.Val{{"0", "1"}}}}
		}, api.ErrForm},
		{func(k *api.PbTask) { k.Net.Nodes = 9 }, api.ErrLong},
		{func(k *api.PbTask) { k.Ranges = k.Ranges[:1] }, api.ErrArg},
		{func(k *api.PbTask) { k.Ranges = append(k.Ranges, k.Ranges[0]) }, api.ErrArg},
		{func(k *api.PbTask) { k.Ranges, k.Faults[0].Elem = nil, 6 }, api.ErrArg},
		{func(k *api.PbTask) { k.Elems[1] = 0 }, api.ErrArg},
		{func(k *api.PbTask) { k.Elems[1] = 1 }, api.ErrRange},
		{func(k *api.PbTask) { k.Elems[1] = 10 }, api.ErrRange},
		{func(k *api.PbTask) { k.Ranges[0].Lo = "0" }, api.ErrRange},
		{func(k *api.PbTask) { k.Ranges[1].Hi = "-2" }, api.ErrRange},
		{func(k *api.PbTask) { k.Ranges[1].Hi = digits(201) }, api.ErrLong},
		{func(k *api.PbTask) { k.Ranges[1].Hi, k.Outs[0] = "x", 99 }, api.ErrForm},
		{func(k *api.PbTask) { k.Ranges[1].Hi, k.Outs[1] = "x", 99 }, api.ErrForm},
		{func(k *api.PbTask) { k.Ranges[1].Hi, k.Outs[1] = digits(201), 0 }, api.ErrLong},
		{func(k *api.PbTask) { k.Ranges[1].Hi, k.Meters[0].Rel = "-2", "x" }, api.ErrRange},
		// Also if a fault has another range for the element.
		{func(k *api.PbTask) { k.Ranges[0].Lo, k.Faults = "x", k.Faults[:1] }, api.ErrForm},
	}
}

// faultChanges are those of meters and faults.
func faultChanges() []change {
	return []change{
		{func(k *api.PbTask) { k.Meters[0].Rel = "1" }, api.ErrRange},
		{func(k *api.PbTask) { k.Meters[2].Abs = "-1" }, api.ErrRange},
		{func(k *api.PbTask) { k.Meters[1].Step, k.Meters[2].Abs = "x", "-1" }, api.ErrForm},
		{func(k *api.PbTask) { k.Meters[1].Step, k.Meters[2].Abs = "-1", "x" }, api.ErrRange},
		{func(k *api.PbTask) { k.Meters[1].Step, k.Meters[2].Abs = digits(1001), "x" }, api.ErrLong},
		{func(k *api.PbTask) { k.Meters[2].Abs, k.Faults = "x", make([]api.PbFault, 21) }, api.ErrForm},
		{func(k *api.PbTask) { k.Meters[2].Abs, k.Faults[0].Elem = "-1", 1 }, api.ErrRange},

		{func(k *api.PbTask) { k.Faults = nil }, api.OK},
		{func(k *api.PbTask) { k.Faults = slices.Repeat(k.Faults[:1], 20) }, api.OK},
		{func(k *api.PbTask) { k.Faults = slices.Repeat(k.Faults[:1], 21) }, api.ErrLong},
		{func(k *api.PbTask) { k.Faults = make([]api.PbFault, 21) }, api.ErrLong},

		{fault(-1, "x", "x"), api.ErrRange},
		{fault(14, "x", "x"), api.ErrRange},
		{fault(math.MaxInt, "1", "2"), api.ErrRange},
		{fault(math.MinInt, "1", "2"), api.ErrRange},
		{fault(1, "1", "2"), api.ErrRange},
		{fault(2, "1", "2"), api.ErrRange},
		{fault(10, "1", "2"), api.ErrRange},
		{fault(9, "1", "2"), api.OK},
		{fault(9, "0", "2"), api.ErrRange},
		{fault(0, "0", "2"), api.ErrRange},
		{fault(0, "1/2", "1/2"), api.OK},
		{fault(0, "x", "2"), api.ErrForm},
		{fault(0, "2", digits(1001)), api.ErrLong},
		{fault(0, digits(201), digits(201)), api.ErrLong},
		{fault(0, digits(200), digits(200)), api.OK},
		{fault(6, "-2", "-3"), api.ErrRange},
		{fault(6, "-3", "-2"), api.OK},
		{fault(3, "-3", "-2"), api.OK},
		{fault(3, digits(201), "x"), api.ErrForm},
		{both(fault(6, "x", "1"), fault(1, "1", "2")), api.ErrForm},
		{both(fault(1, "1", "2"), fault(6, "x", "1")), api.ErrRange},
		{both(fault(6, "1", digits(201)), fault(1, "1", "2")), api.ErrLong},

		// Of 6 parameters none is left for the element of a fault, but this may be one of them.
		{full, api.OK},
		{both(full, fault(7, "1", "2")), api.OK},
		{both(full, fault(8, "1", "2")), api.ErrLong},
		{both(full, fault(8, "x", "x")), api.ErrLong},
		{both(full, fault(1, "1", "2")), api.ErrLong},
		{both(full, both(fault(4, "x", "2"), fault(8, "1", "2"))), api.ErrForm},
		{func(k *api.PbTask) {
			full(k)
			k.Elems, k.Ranges = k.Elems[:5], k.Ranges[:5]
			k.Faults = slices.Concat(faults(8, "1 2"), faults(7, "1 2"), faults(9, "1 2"))
		}, api.OK},
	}
}

func TestP10_2Check(t *testing.T) {
	for i, c := range slices.Concat(outChanges(), wholeChanges(), faultChanges()) {
		k := every(t)
		c.make(&k)
		if e := probe.Check(k); e != c.e {
			t.Errorf("%d: Check = %d, not %d", i, e, c.e)
		}
		if c.e == api.OK {
			continue
		}
		for f, e := range errnos(t, k, -1, -1, 0, 99, api.Range{Lo: "x", Hi: "x"}, words("x x x x")) {
			if e != c.e {
				t.Errorf("%d: the error of the function %d is %d, not %d", i, f, e, c.e)
			}
		}
	}
}

func TestP10_2Meters(t *testing.T) {
	for m, want := range wrongMeters() {
		for at := range 3 {
			k := every(t)
			k.Meters[at] = m
			if e := probe.Check(k); e != want {
				t.Errorf("Check with %.60v = %d, not %d", m, e, want)
			}
		}
	}
}

// The order of errors of all functions, behind those of Check.
func TestP10_2Order(t *testing.T) {
	lone := api.Range{Lo: "1", Hi: "2"}
	// Without a fault the task is not regular, but with the fault 1 it is; the fault 2 is not.
	singular := balance(t, "-2 0", "0 1 -1 -1")
	// Without a fault, and with the fault 1, the task is regular.
	faulty := balance(t, "0 1", "1 2 -2 0")
	for i, c := range []struct {
		task              api.PbTask
		fault, mask, most int
		elem              int
		r                 api.Range
		readings          string
		want              [6]api.Errno
	}{
		{singular, 3, 2, 2, 3, lone, "x x", [...]api.Errno{api.ErrRange, api.ErrSingular, api.ErrArg, api.ErrRange, api.ErrRange, api.ErrRange}},
		{singular, -1, -1, 0, 1, api.Range{Lo: "-2", Hi: "x"}, "", [...]api.Errno{api.ErrRange, api.ErrSingular, api.ErrArg, api.ErrRange, api.ErrRange, api.ErrForm}},
		{singular, 0, 0, 1, 1, api.Range{Lo: "-2", Hi: "0"}, "x", [...]api.Errno{api.ErrSingular, api.ErrSingular, api.ErrForm, api.ErrSingular, api.ErrSingular, api.ErrForm}},
		{singular, 2, 1, 1, 1, api.Range{Lo: "-2", Hi: "0"}, "1", [...]api.Errno{api.ErrSingular, api.ErrSingular, api.ErrSingular, api.ErrSingular, api.ErrSingular, api.ErrSingular}},
		{singular, 1, 0, 1, 1, api.Range{Lo: "1", Hi: "2"}, "1/2", [...]api.Errno{api.OK, api.ErrSingular, api.ErrSingular, api.ErrSingular, api.ErrSingular, api.OK}},
		{faulty, 2, 1, 1, 1, api.Range{Lo: "-1", Hi: "-1"}, string(digits(1001)), [...]api.Errno{api.ErrSingular, api.ErrSingular, api.ErrLong, api.ErrSingular, api.ErrSingular, api.ErrLong}},
		{faulty, 1, 1, 1, 1, api.Range{Lo: "-1", Hi: "-1"}, "7", [...]api.Errno{api.OK, api.ErrSingular, api.ErrSingular, api.ErrSingular, api.ErrSingular, api.ErrSingular}},
		{faulty, 0, 1, 1, 1, api.Range{Lo: "1", Hi: "2"}, "7", [...]api.Errno{api.OK, api.ErrSingular, api.ErrSingular, api.ErrSingular, api.ErrSingular, api.ErrNone}},
		{faulty, math.MaxInt, math.MaxInt, math.MaxInt, math.MaxInt, lone, "7 7", [...]api.Errno{api.ErrRange, api.ErrSingular, api.ErrArg, api.ErrRange, api.ErrRange, api.ErrRange}},
		{faulty, math.MinInt, math.MinInt, math.MinInt, math.MinInt, lone, "7 7", [...]api.Errno{api.ErrRange, api.ErrSingular, api.ErrArg, api.ErrRange, api.ErrRange, api.ErrRange}},
	} {
		got := errnos(t, c.task, c.fault, c.mask, c.most, c.elem, c.r, words(c.readings))
		if !slices.Equal(got, c.want[:]) {
			t.Errorf("%d: the errors are %v, not %v", i, got, c.want)
		}
	}
}
