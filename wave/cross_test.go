package wave_test

import (
	"math"
	"slices"
	"testing"

	"pentode/api"
	"pentode/value"
	"pentode/wave"
)

// steps have the length 1 and these numbers, which are separated by blanks, at their ends.
func steps(numbers ...string) []api.WvStep {
	var l []api.WvStep
	for i, x := range numbers {
		l = append(l, api.WvStep{Time: value.Text(value.Int(int64(i + 1))), H: "1", X: words(x)})
	}
	return l
}

// steps have any times and lengths, and numbers for so many nodes.
func (g *numbers) steps(count, nodes int) []api.WvStep {
	var l []api.WvStep
	for range count {
		l = append(l, api.WvStep{Time: value.Text(g.num()), H: value.Text(g.above()), X: vals(g.nums(nodes))})
	}
	return l
}

func TestP6_6Crossings(t *testing.T) {
	l := steps("1 5", "2 0", "3 -1", "3 0", "-1 0", "0 0", "2 0", "0 0", "0 0", "-3 0")
	l = append(l, api.WvStep{Time: "21/2", H: "1/2", X: words("1 0")})
	for _, c := range []struct {
		a, b  int
		level api.Val
		want  []api.WvCross
	}{
		{1, 0, "0", []api.WvCross{
			{Step: 4, Time: "19/4"}, {Step: 5, Time: "6", Up: true}, {Step: 7, Time: "8"}, {Step: 10, Time: "83/8", Up: true},
		}},
		{0, 1, "0", []api.WvCross{
			{Step: 4, Time: "19/4", Up: true}, {Step: 5, Time: "6"}, {Step: 7, Time: "8", Up: true}, {Step: 10, Time: "83/8"},
		}},
		{1, 0, "3", []api.WvCross{{Step: 2, Time: "3", Up: true}}}, // where it is until it goes down
		{1, 0, "4", nil},
		{1, 2, "-3", []api.WvCross{{Step: 0, Time: "3/4"}, {Step: 1, Time: "7/6", Up: true}, {Step: 9, Time: "10"}}},
		{0, 0, "-1", nil},
		{0, 0, "0", nil},
		{2, 2, "1/2", nil},
	} {
		got, e := wave.Cross(l, words("0 0"), c.a, c.b, c.level)
		if !slices.Equal(got, c.want) || e != api.OK {
			t.Errorf("Cross of %d, %d and %s = %v, %d", c.a, c.b, c.level, got, e)
		}
	}
}

// Times and lengths may be any numbers, and no others are looked at than those of both nodes.
func TestP6_6AnySteps(t *testing.T) {
	l := []api.WvStep{
		{Time: "5", H: "0", X: words("x 1")}, {Time: "-3", H: "-2", X: words("0 -1 x")},
		{Time: "1", H: "1/3", X: words("0 1"), Residual: words("x")},
	}
	want := []api.WvCross{{Step: 0, Time: "5", Up: true}, {Step: 1, Time: "-2"}, {Step: 2, Time: "5/6", Up: true}}
	if got, e := wave.Cross(l, words("x -1"), 2, 0, "0"); !slices.Equal(got, want) || e != api.OK {
		t.Errorf("Cross = %v, %d", got, e)
	}
	if got, e := wave.Cross(nil, words("3"), 1, 0, "3"); got != nil || e != api.OK {
		t.Errorf("Cross of no steps = %v, %d", got, e)
	}
	if got, e := wave.Cross(make([]api.WvStep, 200), nil, 0, 0, "1"); got != nil || e != api.ErrForm {
		t.Errorf("Cross of empty steps = %v, %d", got, e)
	}
}

func TestP6_6Errors(t *testing.T) {
	long := digits(1001)
	for i, c := range []struct {
		change func(l []api.WvStep)
		start  string
		a, b   int
		level  api.Val
		e      api.Errno
	}{
		{nil, "0 0", 2, 1, "0", api.OK},
		{nil, "", -1, 1, "x", api.ErrRange},
		{nil, "", 1, -1, "x", api.ErrRange},
		{nil, "", 21, 1, "x", api.ErrRange},
		{nil, "", 1, 21, "x", api.ErrRange},
		{nil, "", math.MinInt, math.MaxInt, "x", api.ErrRange},
		{nil, "", 20, 1, "x", api.ErrForm},
		{nil, "", 1, 20, long, api.ErrLong},
		{nil, "", 1, 20, "0", api.ErrArg},
		{nil, "", 1, 0, "0", api.ErrArg},
		{nil, "0", 0, 2, "0", api.ErrArg},
		{nil, "x", 2, 1, "0", api.ErrArg},
		{nil, "x " + string(long), 1, 2, "0", api.ErrForm},
		{nil, "x " + string(long), 2, 1, "0", api.ErrLong},
		{nil, "0 0", 3, 1, "0", api.ErrArg},
		{nil, "0 0 0", 3, 1, "0", api.ErrArg},
		{func(l []api.WvStep) { l[0].X = words("1") }, "x 0", 1, 2, "0", api.ErrForm},
		{func(l []api.WvStep) { l[0].X, l[1].X = words("1"), words("x 1") }, "0 0", 1, 2, "0", api.ErrArg},
		{func(l []api.WvStep) { l[1].X, l[0].X = words("1"), words("x 1") }, "0 0", 1, 2, "0", api.ErrForm},
		{func(l []api.WvStep) { l[0].Time, l[0].H, l[1].X[1] = long, long, "x" }, "0 0", 1, 2, "0", api.ErrForm},
		{func(l []api.WvStep) { l[0].Time, l[0].H = long, "x" }, "0 0", 1, 2, "0", api.ErrLong},
		{func(l []api.WvStep) { l[0].H, l[1].Time = "x", long }, "0 0", 1, 2, "0", api.ErrForm},
		{func(l []api.WvStep) { l[1].H, l[2].Time = long, "x" }, "0 0", 1, 2, "0", api.ErrLong},
		{func(l []api.WvStep) { l[2].H = "" }, "0 0", 1, 2, "0", api.ErrForm},
		{func(l []api.WvStep) { l[1].Time, l[2].H = "1/"+digits(1000), "x" }, "0 0", 1, 2, "-1", api.ErrForm},
	} {
		l := steps("1 5", "2 0", "3 -1")
		if c.change != nil {
			c.change(l)
		}
		got, e := wave.Cross(l, words(c.start), c.a, c.b, c.level)
		if e != c.e || e != api.OK && got != nil {
			t.Errorf("%d: Cross = %v, %d", i, got, e)
		}
	}
	if got, e := wave.Cross(make([]api.WvStep, 201), nil, -1, 0, "x"); got != nil || e != api.ErrLong {
		t.Errorf("Cross of too many steps = %v, %d", got, e)
	}
}

// The time of a crossing may be too long, also if all numbers that it comes from are not.
func TestP6_6LongTimes(t *testing.T) {
	h := "1/" + digits(1000)
	for _, c := range []struct {
		to api.Val
		e  api.Errno
	}{{"1", api.OK}, {"2", api.OK}, {"6", api.OK}, {"10", api.ErrLong}, {"-1", api.OK}} {
		l := []api.WvStep{{Time: h, H: h, X: []api.Val{c.to}}}
		got, e := wave.Cross(l, words("-1"), 1, 0, "0")
		if e != c.e || (e != api.OK || c.to == "-1") != (got == nil) {
			t.Errorf("Cross to %s = %v, %d", c.to, got, e)
		}
	}
}

func TestP6_6Definitions(t *testing.T) {
	g := newNumbers()
	found := 0
	for range 500 {
		nodes := 1 + g.below(3)
		l := g.steps(g.below(9), nodes)
		start, a, b, level := vals(g.nums(nodes)), g.below(nodes+1), g.below(nodes+1), g.num()
		want := crossed(l, start, a, b, level)
		found += len(want)
		if got, e := wave.Cross(l, start, a, b, value.Text(level)); !slices.Equal(got, want) || e != api.OK {
			t.Fatalf("%v: Cross from %v of %d, %d and %s = %v, %d, not %v", l, start, a, b, value.Text(level), got, e, want)
		}
	}
	if found < 300 {
		t.Errorf("only %d crossings", found)
	}
}

func TestP6_12Times(t *testing.T) {
	found := 0
	tasks(t, 300, func(task api.WvTask, l []api.WvStep, e api.Errno) {
		nodes := task.Net.Nodes
		for _, level := range words("0 1/3 -1 4") {
			list, e := wave.Cross(l, task.Start, nodes, nodes/2, level)
			if e != api.OK {
				t.Fatalf("%v: Cross of %s = %d", task, level, e)
			}
			for _, c := range list {
				found++
				s := l[c.Step]
				time, end := parsed(c.Time), parsed(s.Time)
				if value.Cmp(time, minus(end, parsed(s.H))) <= 0 || value.Cmp(time, end) > 0 {
					t.Fatalf("%v: a crossing at %s, in a step of %s to %s", task, c.Time, s.H, s.Time)
				}
			}
		}
	})
	if found < 100 {
		t.Errorf("only %d crossings", found)
	}
}
