package wave_test

import (
	"slices"

	"pentode/api"
	"pentode/net"
	"pentode/points"
	"pentode/value"
	"pentode/wave"
)

// This file has the chapter's definitions written again, element by element, on packages value, net and points.

func parsed(v api.Val) value.Num {
	x, e := value.Parse(v)
	if e != api.OK {
		panic("no number: " + v)
	}
	return x
}

// volts is the voltage of a node.
func volts(x []value.Num, node int) value.Num {
	if node == 0 {
		return value.Int(0)
	}
	return x[node-1]
}

func across(e api.Elem, x []value.Num) value.Num {
	return minus(volts(x, e.A), volts(x, e.B))
}

// flow is the number of the unknown that is the current of an element.
func flow(n api.Net, elem int) int {
	return n.Nodes + slices.Index(carriers(n), elem)
}

// charge is that of a capacitor, or the flux of an inductor.
func charge(n api.Net, elem int, x []value.Num) value.Num {
	switch e := n.Elems[elem]; e.Kind {
	case api.ElC:
		return times(parsed(e.Val), across(e, x))
	case api.ElQ:
		q, _ := net.Law(n.Models[e.Model], value.Int(0), across(e, x))
		return q
	case api.ElL:
		return times(parsed(e.Val), x[flow(n, elem)])
	}
	return value.Int(0)
}

// chargeSlope is that of the charge of a capacitor.
func chargeSlope(n api.Net, elem int, x []value.Num) value.Num {
	e := n.Elems[elem]
	if e.Kind == api.ElC {
		return parsed(e.Val)
	}
	m, u := n.Models[e.Model], across(e, x)
	var sum value.Num
	count := 0
	for k, piece := range m.Pieces {
		if k > 0 && value.Cmp(u, parsed(m.Breaks[k-1])) < 0 || k < len(m.Breaks) && value.Cmp(u, parsed(m.Breaks[k])) > 0 {
			continue
		}
		var derivative []value.Num
		for i, c := range piece[1:] {
			derivative = append(derivative, times(value.Int(int64(i+1)), parsed(c)))
		}
		sum = plus(sum, polynomial(derivative, u))
		count++
	}
	return over(sum, value.Int(int64(count)))
}

// current is that of an element at the end of a step.
func current(n api.Net, elem int, x, y []value.Num, h value.Num) value.Num {
	switch e := n.Elems[elem]; e.Kind {
	case api.ElR:
		return over(across(e, y), parsed(e.Val))
	case api.ElS:
		return over(times(value.Int(int64(e.Ref)), across(e, y)), parsed(e.Val))
	case api.ElC, api.ElQ:
		return over(minus(charge(n, elem, y), charge(n, elem, x)), h)
	case api.ElI:
		return parsed(e.Val)
	case api.ElG:
		return times(parsed(e.Val), minus(volts(y, e.C), volts(y, e.D)))
	case api.ElF:
		return times(parsed(e.Val), y[flow(n, e.Ref)])
	case api.ElD, api.ElM:
		i, _ := net.Law(n.Models[e.Model], minus(volts(y, e.C), volts(y, e.B)), across(e, y))
		return i
	}
	return y[flow(n, elem)]
}

func powers(n api.Net, x, y []value.Num, h value.Num) []value.Num {
	var list []value.Num
	for i, e := range n.Elems {
		list = append(list, times(across(e, y), current(n, i, x, y, h)))
	}
	return list
}

func residual(n api.Net, x, y []value.Num, h value.Num) []value.Num {
	r, _ := points.Residual(n, y)
	for i, e := range n.Elems {
		rise := over(minus(charge(n, i, y), charge(n, i, x)), h)
		switch {
		case e.Kind == api.ElL:
			k := flow(n, i)
			r[k] = minus(r[k], rise)
		case e.A > 0:
			r[e.A-1] = plus(r[e.A-1], rise)
		}
		if e.Kind != api.ElL && e.B > 0 {
			r[e.B-1] = minus(r[e.B-1], rise)
		}
	}
	return r
}

// slopes is the matrix of a step.
func slopes(n api.Net, y []value.Num, h value.Num) [][]value.Num {
	var box []value.Span
	for _, x := range y {
		box = append(box, value.Point(x))
	}
	spans, _ := points.Slopes(n, box)
	m := make([][]value.Num, len(spans))
	for i, row := range spans {
		for _, s := range row {
			m[i] = append(m[i], over(plus(s.Lo, s.Hi), value.Int(2)))
		}
	}
	add := func(row, column int, x value.Num) {
		if row >= 0 && column >= 0 {
			m[row][column] = plus(m[row][column], x)
		}
	}
	for i, e := range n.Elems {
		a, b := e.A-1, e.B-1
		switch e.Kind {
		case api.ElL:
			k := flow(n, i)
			add(k, k, value.Neg(over(parsed(e.Val), h)))
		case api.ElC, api.ElQ:
			g := over(chargeSlope(n, i, y), h)
			add(a, a, g)
			add(b, b, g)
			add(a, b, value.Neg(g))
			add(b, a, value.Neg(g))
		}
	}
	return m
}

// solved is the solution of m d = r by Gauss and Jordan, if there is exactly one.
func solved(m [][]value.Num, r []value.Num) ([]value.Num, bool) {
	rows := make([][]value.Num, len(m))
	for i := range m {
		rows[i] = append(slices.Clone(m[i]), r[i])
	}
	for k := range rows {
		found := slices.IndexFunc(rows[k:], func(row []value.Num) bool { return value.Sign(row[k]) != 0 })
		if found < 0 {
			return nil, false
		}
		rows[k], rows[k+found] = rows[k+found], rows[k]
		for i := range rows {
			if i == k {
				continue
			}
			part := over(rows[i][k], rows[k][k])
			for j := range rows[i] {
				rows[i][j] = minus(rows[i][j], times(part, rows[k][j]))
			}
		}
	}
	var d []value.Num
	for k, row := range rows {
		d = append(d, over(row[len(m)], row[k]))
	}
	return d, true
}

// stepped is the end of a step, its residual, and how often its end was changed; false if it fails.
func stepped(n api.Net, x []value.Num, h, tol value.Num, bits int) (y, r []value.Num, changes int, ok bool) {
	y = slices.Clone(x)
	for {
		r = residual(n, x, y, h)
		accepted := true
		for _, part := range r {
			accepted = accepted && value.Cmp(value.Neg(tol), part) <= 0 && value.Cmp(part, tol) <= 0
		}
		if accepted {
			return y, r, changes, true
		}
		if changes == 10 {
			return nil, nil, changes, false
		}
		d, ok := solved(slopes(n, y, h), r)
		if !ok {
			return nil, nil, changes, false
		}
		for k := range y {
			y[k] = value.Down(minus(y[k], d[k]), bits)
		}
		changes++
	}
}

// at is the value of a source.
func at(s api.WvSource, time value.Num) value.Num {
	last := len(s.Times) - 1
	switch {
	case value.Cmp(time, parsed(s.Times[0])) <= 0:
		return parsed(s.Vals[0])
	case value.Cmp(time, parsed(s.Times[last])) >= 0:
		return parsed(s.Vals[last])
	}
	k := 0
	for value.Cmp(time, parsed(s.Times[k+1])) > 0 {
		k++
	}
	t0, t1, v0, v1 := parsed(s.Times[k]), parsed(s.Times[k+1]), parsed(s.Vals[k]), parsed(s.Vals[k+1])
	both := plus(times(v0, minus(t1, time)), times(v1, minus(time, t0)))
	return over(both, minus(t1, t0))
}

// netAt is the net of a step; false if a value is too long.
func netAt(t api.WvTask, from, to value.Num) (api.Net, bool) {
	n := t.Net
	n.Elems = slices.Clone(n.Elems)
	for _, s := range t.Sources {
		x := at(s, to)
		if value.Digits(x) > 1000 {
			return api.Net{}, false
		}
		n.Elems[s.Elem].Val = value.Text(x)
	}
	for i := range n.Elems {
		for _, s := range t.Switches {
			if s.Elem == i && value.Cmp(parsed(s.Time), from) <= 0 {
				n.Elems[i].Ref = 0
				if s.On {
					n.Elems[i].Ref = 1
				}
			}
		}
	}
	return n, true
}

// ran is the wave of a valid task, or its error.
func ran(t api.WvTask) ([]api.WvStep, api.Errno) {
	var list []api.WvStep
	var time value.Num
	var x []value.Num
	for _, v := range t.Start {
		x = append(x, parsed(v))
	}
	for value.Cmp(time, parsed(t.End)) < 0 {
		if len(list) == 200 {
			return nil, api.ErrLong
		}
		length := minus(nextStop(t, time), time)
		if value.Cmp(length, parsed(t.Step)) > 0 {
			length = parsed(t.Step)
		}
		done := false
		for try := 0; try <= 8 && !done; try++ {
			h := over(length, power(try))
			end := plus(time, h)
			n, ok := netAt(t, time, end)
			if !ok {
				return nil, api.ErrLong
			}
			y, r, _, ok := stepped(n, x, h, parsed(t.Tol), t.Bits)
			if !ok {
				continue
			}
			for _, v := range append(append([]value.Num{h, end}, y...), r...) {
				if value.Digits(v) > 1000 {
					return nil, api.ErrLong
				}
			}
			list = append(list, api.WvStep{Time: value.Text(end), H: value.Text(h), X: vals(y), Residual: vals(r)})
			time, x, done = end, y, true
		}
		if !done {
			return nil, wave.ErrStep
		}
	}
	return list, api.OK
}

func nextStop(t api.WvTask, time value.Num) value.Num {
	stops := []api.Val{t.End}
	for _, s := range t.Sources {
		stops = append(stops, s.Times...)
	}
	for _, s := range t.Switches {
		stops = append(stops, s.Time)
	}
	var list []value.Num
	for _, v := range stops {
		if stop := parsed(v); value.Cmp(stop, time) > 0 {
			list = append(list, stop)
		}
	}
	return slices.MinFunc(list, value.Cmp)
}

// crossed are the crossings of valid steps, without a limit of digits.
func crossed(l []api.WvStep, start []api.Val, a, b int, level value.Num) []api.WvCross {
	height := func(x []api.Val) value.Num {
		var ends [2]value.Num
		for k, node := range []int{a, b} {
			if node > 0 {
				ends[k] = parsed(x[node-1])
			}
		}
		return minus(minus(ends[0], ends[1]), level)
	}
	var list []api.WvCross
	u := height(start)
	for i, s := range l {
		w := height(s.X)
		up := value.Sign(u) < 0 && value.Sign(w) >= 0
		if up || value.Sign(u) > 0 && value.Sign(w) <= 0 {
			// The part of the step that is left at the crossing.
			left := over(w, minus(w, u))
			list = append(list, api.WvCross{Step: i, Time: value.Text(minus(parsed(s.Time), times(left, parsed(s.H)))), Up: up})
		}
		u = w
	}
	return list
}

// spansOf are the spans of a box.
func spansOf(box []api.Range) []value.Span {
	var list []value.Span
	for _, r := range box {
		list = append(list, value.Span{Lo: parsed(r.Lo), Hi: parsed(r.Hi)})
	}
	return list
}

// product is the least span of all products.
func product(a, b value.Span) value.Span {
	var ends []value.Num
	for _, x := range []value.Num{a.Lo, a.Hi} {
		for _, y := range []value.Num{b.Lo, b.Hi} {
			ends = append(ends, times(x, y))
		}
	}
	return value.Span{Lo: slices.MinFunc(ends, value.Cmp), Hi: slices.MaxFunc(ends, value.Cmp)}
}

func sum(a, b value.Span) value.Span {
	return value.Span{Lo: plus(a.Lo, b.Lo), Hi: plus(a.Hi, b.Hi)}
}

// capacitance is that of a node.
func capacitance(n api.Net, node int) value.Num {
	var sum value.Num
	for _, e := range n.Elems {
		if e.Kind == api.ElC && (e.A == node || e.B == node) {
			sum = plus(sum, parsed(e.Val))
		}
	}
	return sum
}

// rising is how fast the voltage of the node k + 1 rises by a current out of it.
func rising(n api.Net, k int, current value.Span) value.Span {
	less := value.Neg(over(value.Int(1), capacitance(n, k+1)))
	return product(value.Point(less), current)
}

func rates(n api.Net, box []value.Span) []value.Span {
	list, _ := points.Reach(n, box)
	for k, s := range list {
		list[k] = rising(n, k, s)
	}
	return list
}

// boxAfter is a box after a step, and how many boxes were tried for it; false if it fails.
func boxAfter(n api.Net, x []value.Span, h value.Num, bits int) (after []value.Span, tries int, ok bool) {
	move := func(time value.Span, rates []value.Span) []value.Span {
		var to []value.Span
		for k, s := range x {
			to = append(to, sum(s, product(time, rates[k])))
		}
		return to
	}
	during, end := value.Span{Lo: value.Int(0), Hi: h}, value.Point(h)
	b := move(during, rates(n, x))
	for {
		w := move(during, rates(n, b))
		tries++
		inside, far := true, false
		for k, s := range w {
			inside = inside && value.Cmp(b[k].Lo, s.Lo) <= 0 && value.Cmp(s.Hi, b[k].Hi) <= 0
			far = far || value.Cmp(s.Lo, value.Neg(power(200))) < 0 || value.Cmp(s.Hi, power(200)) > 0
		}
		if inside {
			break
		}
		if far || tries == 20 {
			return nil, tries, false
		}
		for k, s := range w {
			lo, hi := value.Min(b[k].Lo, s.Lo), value.Max(b[k].Hi, s.Hi)
			eighth := over(minus(hi, lo), value.Int(8))
			b[k] = value.Span{Lo: value.Down(minus(lo, eighth), bits), Hi: value.Up(plus(hi, eighth), bits)}
		}
	}
	f, first := rates(n, b), move(end, rates(n, b))
	second, slopes := move(end, rates(n, x)), [][]value.Span(nil)
	slopes, _ = points.Slopes(n, b)
	for k := range x {
		var bend value.Span
		for i := range x {
			bend = sum(bend, product(rising(n, k, slopes[k][i]), f[i]))
		}
		second[k] = sum(second[k], product(value.Point(over(times(h, h), value.Int(2))), bend))
		lo, hi := value.Max(first[k].Lo, second[k].Lo), value.Min(first[k].Hi, second[k].Hi)
		if value.Cmp(lo, hi) > 0 {
			panic("nothing in common")
		}
		after = append(after, value.Span{Lo: value.Down(lo, bits), Hi: value.Up(hi, bits)})
	}
	return after, tries, true
}

// enclosed are the boxes of valid arguments, or their error.
func enclosed(n api.Net, box []api.Range, h value.Num, steps, bits int) ([][]api.Range, api.Errno) {
	x := spansOf(box)
	var list [][]api.Range
	for range steps {
		after, _, ok := boxAfter(n, x, h, bits)
		if !ok {
			return nil, wave.ErrStep
		}
		var texts []api.Range
		for _, s := range after {
			if value.Digits(s.Lo) > 1000 || value.Digits(s.Hi) > 1000 {
				return nil, api.ErrLong
			}
			texts = append(texts, value.SpanText(s))
		}
		list = append(list, texts)
		x = after
	}
	return list, api.OK
}

// trapped is whether a box is a trap.
func trapped(n api.Net, box []api.Range) bool {
	x := spansOf(box)
	for k := range x {
		low, high := slices.Clone(x), slices.Clone(x)
		low[k].Hi, high[k].Lo = x[k].Lo, x[k].Hi
		if value.Sign(rates(n, low)[k].Lo) < 0 || value.Sign(rates(n, high)[k].Hi) > 0 {
			return false
		}
	}
	return true
}
