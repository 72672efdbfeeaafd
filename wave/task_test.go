package wave_test

import (
	"fmt"
	"math"
	"slices"
	"strings"
	"testing"

	"pentode/api"
	"pentode/net"
	"pentode/value"
	"pentode/wave"
)

// switched is a task with two sources and a switch.
func switched(t testing.TB) api.WvTask {
	t.Helper()
	return api.WvTask{
		Net:     read(t, "i i1 0 1 9; c c1 1 0 1; s s1 1 0 off 1/2; v v1 2 0 7; s s2 1 2 on 3; r r1 2 0 1"),
		Sources: []api.WvSource{{Elem: 0, Times: words("1 3 4"), Vals: words("2 4 -2")}, {Elem: 3, Times: words("-1/2"), Vals: words("5")}},
		Switches: []api.WvSwitch{
			{Elem: 2, Time: "-1", On: true}, {Elem: 4, Time: "1/2"}, {Elem: 2, Time: "1/2"}, {Elem: 2, Time: "5/2", On: true},
		},
		Start: words("0 7 -1"), Step: "1", End: "7/2", Tol: "0", Bits: 20,
	}
}

// many is so many of something.
func many[T any](n int, one T) []T {
	return slices.Repeat([]T{one}, n)
}

// ascending are so many numbers.
func ascending(n int) []api.Val {
	var list []api.Val
	for i := range n {
		list = append(list, value.Text(value.Int(int64(i))))
	}
	return list
}

func TestP6_1Parts(t *testing.T) {
	source := func(elem int, times, vals string) func(*api.WvTask) {
		return func(t *api.WvTask) { t.Sources[1] = api.WvSource{Elem: elem, Times: words(times), Vals: words(vals)} }
	}
	twist := func(elem int, time api.Val) func(*api.WvTask) {
		return func(t *api.WvTask) { t.Switches[3] = api.WvSwitch{Elem: elem, Time: time} }
	}
	for i, c := range []struct {
		change   func(t *api.WvTask)
		part, at int
		e        api.Errno
	}{
		{func(t *api.WvTask) {}, 0, 0, api.OK},
		{func(t *api.WvTask) { t.Sources, t.Switches = nil, nil }, 0, 0, api.OK},
		{func(t *api.WvTask) { t.Net.Nodes = 21 }, 0, 0, api.ErrRange},
		{func(t *api.WvTask) { t.Net.Nodes = 12 }, 0, 0, api.ErrLong},
		{func(t *api.WvTask) { t.Net.Elems[1].Val = "x" }, 0, 0, api.ErrForm},
		{func(t *api.WvTask) { t.Net.Elems[1].Val = "0" }, 0, 0, api.ErrRange},
		{func(t *api.WvTask) { t.Start = nil }, 0, 0, api.ErrArg},
		{func(t *api.WvTask) { t.Start = t.Start[:2] }, 0, 0, api.ErrArg},
		{func(t *api.WvTask) { t.Start = append(t.Start, "x") }, 0, 0, api.ErrArg},
		{func(t *api.WvTask) { t.Sources = many(9, api.WvSource{Elem: -1}) }, 0, 0, api.ErrLong},
		{func(t *api.WvTask) { t.Sources = many(8, api.WvSource{Elem: -1}) }, 1, 0, api.ErrRange},
		{func(t *api.WvTask) { t.Switches = many(21, api.WvSwitch{Elem: -1}) }, 0, 0, api.ErrLong},
		{func(t *api.WvTask) { t.Switches = many(20, api.WvSwitch{Elem: -1}) }, 2, 0, api.ErrRange},
		{func(t *api.WvTask) { t.Switches = many(20, api.WvSwitch{Elem: 2, Time: "3"}) }, 0, 0, api.OK},

		{source(-1, "", ""), 1, 1, api.ErrRange},
		{source(6, "", ""), 1, 1, api.ErrRange},
		{source(1, "", ""), 1, 1, api.ErrRange},
		{source(5, "0", "0"), 1, 1, api.ErrRange},
		{source(math.MaxInt, "0", "0"), 1, 1, api.ErrRange},
		{source(0, "0", "0"), 1, 1, api.ErrArg},
		{source(3, "", ""), 1, 1, api.ErrArg},
		{source(3, "", "0"), 1, 1, api.ErrArg},
		{source(3, "0", ""), 1, 1, api.ErrArg},
		{source(3, "0 1", "0"), 1, 1, api.ErrArg},
		{source(3, "0 x", "0 0 0"), 1, 1, api.ErrArg},
		{source(3, "0 1", "0 0"), 0, 0, api.OK},
		{source(3, showVals(ascending(20)), strings.Repeat("0 ", 20)), 0, 0, api.OK},
		{source(3, strings.Repeat("x ", 21), strings.Repeat("0 ", 21)), 1, 1, api.ErrLong},
		{source(3, strings.Repeat("x ", 21), strings.Repeat("0 ", 22)), 1, 1, api.ErrArg},
		{source(3, "1 x", "0 "+string(digits(1001))), 1, 1, api.ErrForm},
		{source(3, "1 "+string(digits(1001)), "x 0"), 1, 1, api.ErrLong},
		{source(3, "1 1", "x "+string(digits(1001))), 1, 1, api.ErrForm},
		{source(3, "1 1", string(digits(1001))+" x"), 1, 1, api.ErrLong},
		{source(3, "1 1", "0 5"), 1, 1, api.ErrRange},
		{source(3, "1 2 3/2", "0 5 7"), 1, 1, api.ErrRange},
		{source(3, "1 2 4/2", "0 5 7"), 1, 1, api.ErrForm},
		{func(t *api.WvTask) { t.Sources[0].Elem, t.Sources[1].Elem = 3, 3 }, 1, 1, api.ErrArg},
		{func(t *api.WvTask) { t.Sources[0].Times, t.Sources[1].Elem = nil, 99 }, 1, 0, api.ErrArg},

		{twist(-1, "x"), 2, 3, api.ErrRange},
		{twist(6, "x"), 2, 3, api.ErrRange},
		{twist(0, "3"), 2, 3, api.ErrRange},
		{twist(math.MinInt, "3"), 2, 3, api.ErrRange},
		{twist(4, "x"), 2, 3, api.ErrForm},
		{twist(4, digits(1001)), 2, 3, api.ErrLong},
		{twist(4, "1/3"), 2, 3, api.ErrRange},
		{twist(4, "1/2"), 0, 0, api.OK},
		{func(t *api.WvTask) { t.Sources[1].Elem, t.Switches[0].Elem, t.Start[0], t.Step = 9, 9, "x", "x" }, 1, 1, api.ErrRange},
		{func(t *api.WvTask) { t.Switches[1].Time, t.Start[0], t.Step = "-2", "x", "x" }, 2, 1, api.ErrRange},

		{func(t *api.WvTask) { t.Start[0], t.Step = "2/4", "x" }, 3, 0, api.ErrForm},
		{func(t *api.WvTask) { t.Start[2], t.Step = digits(1001), "x" }, 3, 2, api.ErrLong},
		{func(t *api.WvTask) { t.Start[1], t.Start[2] = "", digits(1001) }, 3, 1, api.ErrForm},

		{func(t *api.WvTask) { t.Step, t.End = "x", digits(1001) }, 4, 0, api.ErrForm},
		{func(t *api.WvTask) { t.Step, t.End = "0", digits(1001) }, 4, 0, api.ErrLong},
		{func(t *api.WvTask) { t.End, t.Tol = digits(1001), "x" }, 4, 0, api.ErrLong},
		{func(t *api.WvTask) { t.End, t.Tol = "0", "x" }, 4, 0, api.ErrForm},
		{func(t *api.WvTask) { t.Tol = digits(1001) }, 4, 0, api.ErrLong},
		{func(t *api.WvTask) { t.Step = "0" }, 4, 0, api.ErrRange},
		{func(t *api.WvTask) { t.Step = "-1" }, 4, 0, api.ErrRange},
		{func(t *api.WvTask) { t.End = "0" }, 4, 0, api.ErrRange},
		{func(t *api.WvTask) { t.End = "-1/2" }, 4, 0, api.ErrRange},
		{func(t *api.WvTask) { t.Tol = "-1" }, 4, 0, api.ErrRange},
		{func(t *api.WvTask) { t.Bits = 3 }, 4, 0, api.ErrRange},
		{func(t *api.WvTask) { t.Bits = 4 }, 0, 0, api.OK},
		{func(t *api.WvTask) { t.Bits = 200 }, 0, 0, api.OK},
		{func(t *api.WvTask) { t.Bits = 201 }, 4, 0, api.ErrRange},
		{func(t *api.WvTask) { t.Bits = math.MinInt }, 4, 0, api.ErrRange},
	} {
		task := switched(t)
		c.change(&task)
		if part, at, e := wave.Check(task); part != c.part || at != c.at || e != c.e {
			t.Errorf("%d: Check = %d, %d, %d", i, part, at, e)
		}
		if c.e == api.OK {
			continue
		}
		if n, e := wave.At(task, "x", "x"); e != c.e || !net.Same(n, api.Net{}) {
			t.Errorf("%d: At = %v, %d", i, n, e)
		}
		if l, e := wave.Run(task); e != c.e || l != nil {
			t.Errorf("%d: Run = %v, %d", i, l, e)
		}
	}
}

func TestP6_1Empty(t *testing.T) {
	if part, at, e := wave.Check(api.WvTask{}); part != 4 || at != 0 || e != api.ErrForm {
		t.Errorf("Check = %d, %d, %d", part, at, e)
	}
	if part, at, e := wave.Check(api.WvTask{Step: "1", End: "1", Tol: "0", Bits: 4}); part != 0 || at != 0 || e != api.OK {
		t.Errorf("Check = %d, %d, %d", part, at, e)
	}
}

func TestP6_2Values(t *testing.T) {
	task := switched(t)
	for _, c := range []struct {
		from, to api.Val
		current  api.Val
		refs     string
	}{
		{"0", "0", "2", "1 1"},
		{"0", "1/2", "2", "1 1"},
		{"1/2", "1", "2", "0 0"},
		{"1/3", "1", "2", "1 1"},
		{"1", "2", "3", "0 0"},
		{"5/2", "2", "3", "1 0"},
		{"2", "5/2", "7/2", "0 0"},
		{"5/2", "3", "4", "1 0"},
		{"5/2", "10/3", "2", "1 0"},
		{"3", "11/3", "0", "1 0"},
		{"3", "4", "-2", "1 0"},
		{"3", "99", "-2", "1 0"},
		{"-1", "-99", "2", "1 1"},
		{"-11/10", "-99", "2", "0 1"},
	} {
		n, e := wave.At(task, c.from, c.to)
		want := task.Net
		want.Elems = slices.Clone(want.Elems)
		want.Elems[0].Val, want.Elems[3].Val = c.current, "5"
		fmt.Sscan(c.refs, &want.Elems[2].Ref, &want.Elems[4].Ref)
		if !net.Same(n, want) || e != api.OK {
			t.Errorf("At of %s and %s = %v, %d", c.from, c.to, n, e)
		}
	}
}

func TestP6_2Definitions(t *testing.T) {
	g := newNumbers()
	for range 200 {
		task := g.task(g.below(4), g.below(12), 3)
		from, to := over(g.num(), value.Int(8)), over(g.num(), value.Int(8))
		want, _ := netAt(task, from, to)
		if n, e := wave.At(task, value.Text(from), value.Text(to)); !net.Same(n, want) || e != api.OK {
			t.Fatalf("%v: At of %s and %s = %v, %d, not %v", task, value.Text(from), value.Text(to), n, e, want)
		}
	}
}

func TestP6_2Errors(t *testing.T) {
	long := "1/" + digits(999) // with ten to the power 998
	task := api.WvTask{
		Net: read(t, "i i1 0 1 9; v v1 1 0 1"), Start: words("0 0"), Step: "1", End: "1", Tol: "0", Bits: 20,
		Sources: []api.WvSource{{Elem: 0, Times: words("0 1000"), Vals: []api.Val{"0", long}}},
	}
	for _, c := range []struct {
		from, to api.Val
		val      api.Val
		e        api.Errno
	}{
		{"x", digits(1001), "", api.ErrForm},
		{digits(1001), "x", "", api.ErrLong},
		{"0", "x", "", api.ErrForm},
		{"0", digits(1001), "", api.ErrLong},
		{"0", "1000", long, api.OK},
		{"0", "100", "1/" + digits(1000), api.OK},
		{"0", "10", "", api.ErrLong},
		{"10", "0", "0", api.OK},
	} {
		n, e := wave.At(task, c.from, c.to)
		if e != c.e || e == api.OK && n.Elems[0].Val != c.val || e != api.OK && !net.Same(n, api.Net{}) {
			t.Errorf("At of %.20s and %.20s = %.100v, %d", c.from, c.to, n, e)
		}
	}
}
