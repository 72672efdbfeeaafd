package spread_test

import (
	"math"
	"slices"
	"testing"

	"pentode/api"
	"pentode/spread"
	"pentode/value"
)

// every is a task whose net has elements of all kinds: the resistor 0, the capacitor 1, the inductor 2, the sources 3 to 8, the
// closed switch 9, the open one 10. It has 2 nodes and 4 currents of their own.
func every(t testing.TB) api.SpTask {
	t.Helper()
	k := task(t, "r r 1 0 1; c c 1 2 1; l l 2 0 1; v v 1 0 1; i i 1 0 1; e e 1 2 1 0 1; g g 1 2 1 0 1; f f 1 2 v 1; h h 2 0 v 1; s s 1 2 on 1; s o 1 2 off 1",
		0, []int{0, 6}, "1 2 -1 1")
	k.Net.Models = []api.Model{{Kind: api.MdCurve, Pieces: [][]api.Val{{"0", "1"}}}, {Kind: api.MdSquare, Kp: "1", Vt: "0"}}
	return k
}

// param makes the second parameter another one.
func param(elem int, lo, hi api.Val) func(*api.SpTask) {
	return func(k *api.SpTask) { k.Elems[1], k.Ranges[1] = elem, api.Range{Lo: lo, Hi: hi} }
}

// add puts an element in the place of the last one, the open switch.
func add(e api.Elem) func(*api.SpTask) {
	return func(k *api.SpTask) { k.Net.Elems[10] = e }
}

func TestP7_1Check(t *testing.T) {
	d200, d201, d1001 := digits(200), digits(201), digits(1001)
	for i, c := range []struct {
		change func(k *api.SpTask)
		e      api.Errno
	}{
		{func(k *api.SpTask) {}, api.OK},
		{func(k *api.SpTask) { k.Elems, k.Ranges = nil, nil }, api.OK},
		{func(k *api.SpTask) { k.Elems, k.Ranges = []int{}, []api.Range{} }, api.OK},

		{func(k *api.SpTask) { k.Net.Nodes = 21 }, api.ErrRange},
		{func(k *api.SpTask) { k.Net.Nodes = math.MinInt }, api.ErrRange},
		{func(k *api.SpTask) { k.Net.Elems[0].Val = "x" }, api.ErrForm},
		{func(k *api.SpTask) { k.Net.Elems[0].Val = "0" }, api.ErrRange},
		{func(k *api.SpTask) { k.Net.Elems[0].Val = d1001 }, api.ErrLong},
		{func(k *api.SpTask) { k.Net.Elems[0].Kind = 14 }, api.ErrArg},
		{func(k *api.SpTask) { k.Net.Elems = slices.Repeat(k.Net.Elems[:1], 61) }, api.ErrLong},
		{func(k *api.SpTask) { k.Net.Models[0].Kind = 3 }, api.ErrArg},

		{add(api.Elem{Kind: api.ElD, A: 1}), api.ErrForm},
		{add(api.Elem{Kind: api.ElQ, A: 1}), api.ErrForm},
		{add(api.Elem{Kind: api.ElM, A: 1, C: 2, Model: 1}), api.ErrForm},
		{func(k *api.SpTask) { add(api.Elem{Kind: api.ElD, A: 1})(k); k.Net.Nodes = 20 }, api.ErrForm},
		{func(k *api.SpTask) { add(api.Elem{Kind: api.ElD, A: 1})(k); k.Net.Elems[9].Val = "-1" }, api.ErrRange},
		{func(k *api.SpTask) { add(api.Elem{Kind: api.ElD, A: 1})(k); k.Elems = make([]int, 7) }, api.ErrForm},

		{func(k *api.SpTask) { k.Net.Nodes = 8 }, api.OK},
		{func(k *api.SpTask) { k.Net.Nodes, k.Ranges = 9, nil }, api.ErrLong},
		{func(k *api.SpTask) { k.Net.Nodes = 20 }, api.ErrLong},
		{func(k *api.SpTask) { k.Elems, k.Ranges = make([]int, 7), nil }, api.ErrLong},
		{func(k *api.SpTask) { k.Elems, k.Ranges = []int{0, 3, 4, 5, 6, 7}, slices.Repeat(ranges("1 2"), 6) }, api.OK},
		{func(k *api.SpTask) { k.Elems, k.Ranges = []int{0, 3, 4, 5, 6, 7, 8}, slices.Repeat(ranges("1 2"), 7) }, api.ErrLong},

		{func(k *api.SpTask) { k.Ranges, k.Elems[0] = nil, 99 }, api.ErrArg},
		{func(k *api.SpTask) { k.Ranges = append(k.Ranges, k.Ranges[0]) }, api.ErrArg},
		{func(k *api.SpTask) { k.Elems = nil }, api.ErrArg},
		{func(k *api.SpTask) { k.Ranges = make([]api.Range, 9) }, api.ErrArg},

		{param(-1, "x", "x"), api.ErrRange},
		{param(11, "x", "x"), api.ErrRange},
		{param(math.MaxInt, "1", "2"), api.ErrRange},
		{param(math.MinInt, "1", "2"), api.ErrRange},
		{param(1, "1", "2"), api.ErrRange},
		{param(2, "1", "2"), api.ErrRange},
		{param(10, "1", "2"), api.ErrRange},
		{param(3, "-1", "2"), api.OK},
		{param(4, "-1", "2"), api.OK},
		{param(5, "-1", "2"), api.OK},
		{param(6, "-1", "2"), api.OK},
		{param(7, "-1", "2"), api.OK},
		{param(8, "-1", "2"), api.OK},
		{param(9, "1", "2"), api.OK},
		{param(0, "x", "x"), api.ErrArg},
		{param(3, "x", d1001), api.ErrForm},
		{param(3, d1001, "x"), api.ErrLong},
		{param(3, d201, "x"), api.ErrForm},
		{param(3, "2", "2/4"), api.ErrForm},
		{param(3, "2", d1001), api.ErrLong},
		{param(3, d201, "0"), api.ErrLong},
		{param(3, "0", d201), api.ErrLong},
		{param(3, "1/"+d201, "1"), api.ErrLong},
		{param(3, "-"+d201, "1"), api.ErrLong},
		{param(3, "-"+d200, d200), api.OK},
		{param(3, "1/"+d200, "3/"+d200), api.OK},
		{param(9, "1/"+d200, d200), api.OK},
		{param(3, "1", "1"), api.OK},
		{param(3, "1", "1/2"), api.ErrRange},
		{param(9, "0", "1"), api.ErrRange},
		{param(9, "-1", "1"), api.ErrRange},
		{param(9, "-2", "-1"), api.ErrRange},
		{param(3, "0", "0"), api.OK},
		{func(k *api.SpTask) { k.Ranges[0].Lo = "0" }, api.ErrRange},
		{func(k *api.SpTask) { k.Ranges[0].Lo = "-1" }, api.ErrRange},
		{func(k *api.SpTask) { k.Ranges[0].Lo, k.Elems[1] = d201, 0 }, api.ErrLong},
		{func(k *api.SpTask) { k.Ranges[0].Lo, k.Elems[1] = "x", 99 }, api.ErrForm},
		{func(k *api.SpTask) { k.Ranges[0].Hi, k.Ranges[1].Lo = "0", "x" }, api.ErrRange},
		{func(k *api.SpTask) { k.Ranges[1].Lo, k.Out = "x", 99 }, api.ErrForm},

		{func(k *api.SpTask) { k.Out = -1 }, api.ErrRange},
		{func(k *api.SpTask) { k.Out = 5 }, api.OK},
		{func(k *api.SpTask) { k.Out = 6 }, api.ErrRange},
		{func(k *api.SpTask) { k.Out = math.MaxInt }, api.ErrRange},
		{func(k *api.SpTask) { *k = api.SpTask{} }, api.ErrRange},
	} {
		k := every(t)
		c.change(&k)
		if e := spread.Check(k); e != c.e {
			t.Errorf("%d: Check = %d, not %d", i, e, c.e)
		}
		if c.e == api.OK {
			continue
		}
		for f, e := range errnos(t, k, make([]value.Num, 7), api.Range{Lo: "x", Hi: "x"}) {
			if e != c.e {
				t.Errorf("%d: the error of the function %d is %d, not %d", i, f, e, c.e)
			}
		}
	}
}

// The error of a range comes behind that of the task, and before all others.
func TestP7_1Specs(t *testing.T) {
	d1001 := digits(1001)
	long := divider(t)
	long.Net.Elems = append(long.Net.Elems, slices.Repeat(long.Net.Elems[1:2], 4)...)
	long.Elems, long.Ranges = []int{1, 2, 3, 4, 5, 6}, slices.Repeat(ranges("1 2"), 6)
	for _, k := range []api.SpTask{divider(t), long, balance(t, "-2 0"), balance(t, "-1 -1")} {
		for _, c := range []struct {
			spec api.Range
			e    api.Errno
		}{
			{api.Range{}, api.ErrForm},
			{api.Range{Lo: "x", Hi: d1001}, api.ErrForm},
			{api.Range{Lo: d1001, Hi: "x"}, api.ErrLong},
			{api.Range{Lo: "1", Hi: "2/4"}, api.ErrForm},
			{api.Range{Lo: "1", Hi: d1001}, api.ErrLong},
			{api.Range{Lo: "1", Hi: "1/2"}, api.ErrRange},
		} {
			for _, n := range []int{-1, 0, 3, 100} {
				if y, e := spread.Yield(k, c.spec, n); y != (api.SpYield{}) || e != c.e {
					t.Errorf("Yield of %.20v, %d = %v, %d", c.spec, n, y, e)
				}
				if in, all, e := spread.Count(k, c.spec, n); in != 0 || all != 0 || e != c.e {
					t.Errorf("Count of %.20v, %d = %d, %d, %d", c.spec, n, in, all, e)
				}
				r, e := spread.Scale(k, c.spec, n)
				check(t, "Scale", r, e, "", c.e)
			}
		}
	}
}
