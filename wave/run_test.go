package wave_test

import (
	"fmt"
	"slices"
	"testing"

	"pentode/api"
	"pentode/points"
	"pentode/value"
	"pentode/wave"
)

// lengths are the times of steps, and how long they are.
func lengths(l []api.WvStep) (times, h []api.Val) {
	for _, s := range l {
		times, h = append(times, s.Time), append(h, s.H)
	}
	return times, h
}

// Sources and switches make steps end, but not those at the time 0, at the end or behind it.
func TestP6_5Stops(t *testing.T) {
	task := api.WvTask{
		Net: read(t, "i i1 0 1 9; c c1 1 0 1; s s1 1 0 off 1/2; i i2 0 1 0"), Start: words("0"), Step: "1", End: "7/2", Tol: "1/1000", Bits: 30,
		Sources: []api.WvSource{
			{Elem: 0, Times: words("-1 1 3 5"), Vals: words("0 2 4 8")}, {Elem: 3, Times: words("0 5/4"), Vals: words("0 0")},
		},
		Switches: []api.WvSwitch{{Elem: 2, Time: "0"}, {Elem: 2, Time: "3/2", On: true}, {Elem: 2, Time: "7/2"}, {Elem: 2, Time: "4"}},
	}
	l, e := wave.Run(task)
	at, h := lengths(l)
	if showVals(at) != "1 5/4 3/2 5/2 3 7/2" || showVals(h) != "1 1/4 1/4 1 1/2 1/2" || e != api.OK {
		t.Fatalf("Run = %v, %d", l, e)
	}
	if got := showSteps(l[:3]); got != "1: 2; 5/4: 41/16; 3/2: 51/16" { // 2 for a time 1, 9/4 for 1/4, 5/2 for 1/4
		t.Errorf("Run = %s", got)
	}
	task.Step = "1/2"
	l, e = wave.Run(task)
	if at, h := lengths(l); showVals(at) != "1/2 1 5/4 3/2 2 5/2 3 7/2" || showVals(h) != "1/2 1/2 1/4 1/4 1/2 1/2 1/2 1/2" || e != api.OK {
		t.Errorf("Run in halves = %v, %d", l, e)
	}
	if got := showSteps(l[:4]); got != "1/2: 3/4; 1: 7/4; 5/4: 37/16; 3/2: 47/16" {
		t.Errorf("Run = %s", got)
	}
}

// halving is a net whose steps have slopes without an inverse for the lengths 1, 1/2 and so on to 2 to the power of 1 - nodes.
func halving(nodes int) api.WvTask {
	task := api.WvTask{Net: api.Net{Nodes: nodes}, Step: "1", End: "1", Tol: "1/100", Bits: 60}
	for k := range nodes {
		task.Start = append(task.Start, "1")
		task.Net.Elems = append(task.Net.Elems,
			api.Elem{Kind: api.ElC, A: k + 1, Val: "1"},
			api.Elem{Kind: api.ElG, A: k + 1, C: k + 1, Val: value.Text(value.Neg(power(k)))})
	}
	return task
}

// A step that fails is tried again with half of its length, at most eight times.
func TestP6_5Halves(t *testing.T) {
	for _, c := range []struct {
		nodes int
		end   api.Val
		h     string
		e     api.Errno
	}{
		{1, "1", "1/2 1/2", api.OK},
		{2, "3/4", "3/4", api.OK},
		{3, "5/8", "5/8", api.OK},
		{3, "1", "1/8 7/8", api.OK},
		{8, "513/512", "1/256 511/512", api.OK},
		{9, "513/512", "", wave.ErrStep},
		{8, "1", "1/256 255/256", api.OK},
		{9, "1", "", wave.ErrStep},
	} {
		task := halving(c.nodes)
		task.End = c.end
		l, e := wave.Run(task)
		_, h := lengths(l)
		if showVals(h) != c.h || e != c.e || e != api.OK && l != nil {
			t.Errorf("%d, %s: Run has steps of %s, %d", c.nodes, c.end, showVals(h), e)
		}
	}
}

func TestP6_5Count(t *testing.T) {
	task := api.WvTask{Net: decay(t), Start: words("0"), Step: "1", End: "200", Tol: "0", Bits: 20}
	l, e := wave.Run(task)
	if len(l) != 200 || e != api.OK || l[199].Time != "200" {
		t.Errorf("Run to 200 has %d steps, %d", len(l), e)
	}
	for _, end := range []api.Val{"201", "2001/10", digits(1000)} {
		task.End = end
		if l, e := wave.Run(task); l != nil || e != api.ErrLong {
			t.Errorf("Run to %.20s = %v, %d", end, l, e)
		}
	}
	task.End = "1"
	task.Step = "1/" + digits(900)
	if l, e := wave.Run(task); l != nil || e != api.ErrLong {
		t.Errorf("Run by tiny steps = %v, %d", l, e)
	}
}

// Numbers of steps, and values of sources, that are too long. p and q have no common divisor.
func TestP6_5Long(t *testing.T) {
	p, q := digits(600), "7"+digits(599)[1:]+"7"
	tiny := "1/" + value.Text(power(3300)) // has 994 digits
	source := read(t, "i i1 0 1 0; c c1 1 0 1")
	stop := func(time api.Val) []api.WvSource {
		return []api.WvSource{{Elem: 0, Times: []api.Val{time}, Vals: words("0")}}
	}
	for _, c := range []struct {
		name string
		task api.WvTask
		e    api.Errno
	}{
		{"nothing", api.WvTask{Net: source, Start: words("0"), Step: "1/" + p, End: "3/" + p, Sources: stop("1/" + p)}, api.OK},
		{"the time", api.WvTask{Net: source, Start: words("0"), Step: "1/" + p, End: "1", Sources: stop("1/" + q)}, api.ErrLong},
		{"the length", api.WvTask{Net: source, Start: words("0"), Step: "1/" + q, End: "1/" + p}, api.ErrLong},
		{"a residual", api.WvTask{Net: read(t, "i i1 0 1 1/"+string(q)), Start: words("0"), Step: "1", End: "1", Tol: "1"}, api.OK},
		{"a residual", api.WvTask{
			Net: read(t, "i i1 0 1 1; g g1 1 0 1 0 1; i i2 0 1 1"), Start: []api.Val{"1/" + p}, Step: "1", End: "1", Tol: "9",
			Sources: []api.WvSource{{Elem: 0, Times: words("0"), Vals: []api.Val{"1/" + q}}},
		}, api.ErrLong},
		{"a number", api.WvTask{
			Net:   api.Net{Nodes: 2, Elems: []api.Elem{{Kind: api.ElV, A: 1, Val: tiny}, {Kind: api.ElE, A: 2, C: 1, Val: tiny}}},
			Start: words("0 0 0 0"), Step: "1", End: "1",
		}, api.ErrLong},
		{"a value", api.WvTask{
			Net: source, Start: words("0"), Step: "1", End: "2",
			Sources: []api.WvSource{{Elem: 0, Times: words("0 3"), Vals: []api.Val{"0", "1/" + digits(1000)}}},
		}, api.ErrLong},
		{"a value for a step that fails", api.WvTask{
			Net: read(t, "i i1 0 1 0"), Start: words("0"), Step: "1", End: "1",
			Sources: []api.WvSource{{Elem: 0, Times: words("0 1"), Vals: []api.Val{"0", "1/" + value.Text(power(3320))}}},
		}, api.ErrLong},
	} {
		c.task.Bits = 20
		if c.task.Tol == "" {
			c.task.Tol = "0"
		}
		if l, e := wave.Run(c.task); e != c.e || e != api.OK && l != nil {
			t.Errorf("with %s too long Run = %.200v, %d", c.name, l, e)
		}
	}
}

// A time may be too long where no length is, and the next time is not: as its numerator and its denominator have a common divisor.
func TestP6_5LongTime(t *testing.T) {
	part := func(base int64, n int) value.Num { // 1 by a power
		x := value.Int(1)
		for range n {
			x = over(x, value.Int(base))
		}
		return x
	}
	a, b, c, d := part(3, 627), part(5, 428), part(2, 980), part(7, 353)
	one := value.Int(1)
	first, step, end := plus(one, minus(a, b)), plus(one, minus(c, d)), plus(value.Int(3), plus(a, c))
	long := plus(first, step)
	for _, x := range []value.Num{first, step, minus(end, long), end} {
		if value.Digits(x) > api.MaxDigits || value.Digits(long) <= api.MaxDigits || value.Cmp(x, step) > 0 && value.Cmp(x, end) < 0 {
			t.Fatalf("%s is not as it has to be", value.Text(x))
		}
	}
	task := api.WvTask{Net: ramp(t), Start: words("0"), Step: value.Text(step), End: value.Text(end), Tol: "99", Bits: 20}
	task.Net.Elems[0].Val = "0"
	task.Sources = []api.WvSource{{Elem: 0, Times: []api.Val{value.Text(first)}, Vals: words("0")}}
	if l, e := wave.Run(task); l != nil || e != api.ErrLong {
		t.Errorf("Run = %v, %d", l, e)
	}
	if want, e := ran(task); want != nil || e != api.ErrLong {
		t.Errorf("by the definitions Run = %v, %d", want, e)
	}
}

// tasks are valid ones of a few steps, with their waves.
func tasks(t *testing.T, count int, check func(task api.WvTask, l []api.WvStep, e api.Errno)) {
	t.Helper()
	g := newNumbers()
	codes := map[api.Errno]int{}
	for range count {
		task := g.task(g.below(4), g.below(9), 4)
		if part, at, e := wave.Check(task); e != api.OK {
			t.Fatalf("%v: Check = %d, %d, %d", task, part, at, e)
		}
		l, e := wave.Run(task)
		codes[e]++
		check(task, l, e)
	}
	if codes[api.OK] < count/4 || codes[wave.ErrStep] < count/20 {
		t.Errorf("the waves end with %v", codes)
	}
}

func TestP6_5Definitions(t *testing.T) {
	tasks(t, 400, func(task api.WvTask, l []api.WvStep, e api.Errno) {
		want, wantE := ran(task)
		if fmt.Sprint(l) != fmt.Sprint(want) || e != wantE {
			t.Fatalf("%v: Run = %v, %d, not %v, %d", task, l, e, want, wantE)
		}
	})
}

// Waves that have shorter steps than they would have if none failed.
func TestP6_5ShorterSteps(t *testing.T) {
	g := newNumbers()
	shorter := 0
	for range 100 {
		task := halving(1 + g.below(4))
		task.Step = words("1 1/2 2 3/4")[g.below(4)]
		task.End = words("1 3/2 5/4 7/4")[g.below(4)]
		task.Tol = words("1/10 1/100 1/2")[g.below(3)]
		want, wantE := ran(task)
		l, e := wave.Run(task)
		if fmt.Sprint(l) != fmt.Sprint(want) || e != wantE {
			t.Fatalf("%v: Run = %v, %d, not %v, %d", task, l, e, want, wantE)
		}
		var time value.Num
		for _, s := range l {
			longest := value.Min(parsed(task.Step), minus(nextStop(task, time), time))
			if value.Cmp(parsed(s.H), longest) < 0 {
				shorter++
			}
			time = parsed(s.Time)
		}
	}
	if shorter < 50 {
		t.Errorf("only %d steps were shorter than they could be", shorter)
	}
}

func TestP6_8Run(t *testing.T) {
	tasks(t, 300, func(task api.WvTask, l []api.WvStep, e api.Errno) {
		x, from := task.Start, api.Val("0")
		tol := parsed(task.Tol)
		for _, s := range l {
			n, e := wave.At(task, from, s.Time)
			if e != api.OK {
				t.Fatalf("%v: At of %s and %s = %d", task, from, s.Time, e)
			}
			r, e := wave.Residual(n, nums(t, showVals(x)), nums(t, showVals(s.X)), num(t, s.H))
			if show(r) != showVals(s.Residual) || e != api.OK {
				t.Fatalf("%v: at %s the residual is %s, %d, not %v", task, s.Time, show(r), e, s.Residual)
			}
			for _, part := range r {
				if value.Cmp(value.Abs(part), tol) > 0 {
					t.Fatalf("%v: at %s the residual is %v", task, s.Time, s.Residual)
				}
			}
			x, from = s.X, s.Time
		}
	})
}

func TestP6_9Times(t *testing.T) {
	tasks(t, 300, func(task api.WvTask, l []api.WvStep, e api.Errno) {
		var time value.Num
		for _, s := range l {
			stop := nextStop(task, time)
			h := parsed(s.H)
			time = plus(time, h)
			if value.Sign(h) <= 0 || value.Cmp(h, parsed(task.Step)) > 0 || value.Text(time) != s.Time || value.Cmp(time, stop) > 0 {
				t.Fatalf("%v: a step of %s to %s", task, s.H, s.Time)
			}
		}
		if e == api.OK && value.Text(time) != task.End {
			t.Fatalf("%v: the wave ends at %s", task, value.Text(time))
		}
	})
}

func TestP6_10Rest(t *testing.T) {
	g := newNumbers()
	found := 0
	for range 400 {
		n := g.small(g.below(4), g.below(9), 2)
		at, e := points.Exact(n)
		if e != api.OK {
			continue
		}
		for _, x := range at {
			found++
			task := api.WvTask{Net: n, Start: vals(x), Step: "2/7", End: "1", Tol: []api.Val{"0", "1/10"}[g.below(2)], Bits: 4}
			l, e := wave.Run(task)
			if len(l) != 4 || e != api.OK {
				t.Fatalf("%v: Run = %v, %d", task, l, e)
			}
			for _, s := range l {
				if !slices.Equal(s.X, task.Start) || slices.ContainsFunc(s.Residual, func(r api.Val) bool { return r != "0" }) || len(s.Residual) != len(x) {
					t.Fatalf("%v: a step to %v with the residual %v", task, s.X, s.Residual)
				}
			}
		}
	}
	if found < 50 {
		t.Errorf("only %d operating points", found)
	}
}

// A net without unknowns has waves of no numbers.
func TestP6_5Nothing(t *testing.T) {
	l, e := wave.Run(api.WvTask{Step: "1", End: "3/2", Tol: "0", Bits: 4})
	if at, h := lengths(l); showVals(at) != "1 3/2" || showVals(h) != "1 1/2" || len(l[0].X)+len(l[0].Residual) != 0 || e != api.OK {
		t.Errorf("Run = %v, %d", l, e)
	}
}
