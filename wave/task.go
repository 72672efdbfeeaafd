package wave

import (
	"iter"
	"slices"

	"pentode/api"
	"pentode/points"
	"pentode/value"
)

// task is a task with numbers in place of texts.
type task struct {
	net            api.Net
	sources        []source
	switchings     []switching
	start          []value.Num
	step, end, tol value.Num
	bits           int
}

// source is the value of an element in time.
type source struct {
	elem        int
	times, vals []value.Num
}

// switching is what Ref of a switch is from a time on.
type switching struct {
	elem, ref int
	time      value.Num
}

// taskOf reads a task, or tells which part of it has an error, which of its numbers, and which error.
func taskOf(from api.WvTask) (t task, part, at int, e api.Errno) {
	parts := [...]func(*task, api.WvTask) (int, api.Errno){
		(*task).readNet, (*task).readSources, (*task).readSwitches, (*task).readStart, (*task).readLimits,
	}
	for part, read := range parts {
		if at, e := read(&t, from); e != api.OK {
			return task{}, part, at, e
		}
	}
	return t, 0, 0, api.OK
}

// readNet reads the net, and looks at how many parts all lists have.
func (t *task) readNet(from api.WvTask) (int, api.Errno) {
	size, e := points.Size(from.Net)
	switch {
	case e != api.OK:
		return 0, e
	case len(from.Start) != size:
		return 0, api.ErrArg
	case len(from.Sources) > api.MaxWvSources || len(from.Switches) > api.MaxWvPoints:
		return 0, api.ErrLong
	}
	t.net = from.Net
	return 0, api.OK
}

func (t *task) readSources(from api.WvTask) (int, api.Errno) {
	for i, s := range from.Sources {
		if e := t.addSource(s); e != api.OK {
			return i, e
		}
	}
	return 0, api.OK
}

// addSource reads the next source.
func (t *task) addSource(s api.WvSource) api.Errno {
	isSame := func(earlier source) bool { return earlier.elem == s.Elem }
	switch {
	case !t.isKind(s.Elem, api.ElV) && !t.isKind(s.Elem, api.ElI):
		return api.ErrRange
	case slices.ContainsFunc(t.sources, isSame) || len(s.Times) == 0 || len(s.Vals) != len(s.Times):
		return api.ErrArg
	case len(s.Times) > api.MaxWvPoints:
		return api.ErrLong
	}
	times, _, e := numbers(s.Times...)
	if e != api.OK {
		return e
	}
	vals, _, e := numbers(s.Vals...)
	if e != api.OK {
		return e
	}
	for i := range times[1:] {
		if value.Cmp(times[i], times[i+1]) >= 0 {
			return api.ErrRange
		}
	}
	t.sources = append(t.sources, source{s.Elem, times, vals})
	return api.OK
}

func (t *task) readSwitches(from api.WvTask) (int, api.Errno) {
	for i, s := range from.Switches {
		if e := t.addSwitch(s); e != api.OK {
			return i, e
		}
	}
	return 0, api.OK
}

// addSwitch reads the next switching.
func (t *task) addSwitch(s api.WvSwitch) api.Errno {
	if !t.isKind(s.Elem, api.ElS) {
		return api.ErrRange
	}
	time, e := value.Parse(s.Time)
	if e != api.OK {
		return e
	}
	if last := len(t.switchings) - 1; last >= 0 && value.Cmp(t.switchings[last].time, time) > 0 {
		return api.ErrRange
	}
	ref := 0
	if s.On {
		ref = 1
	}
	t.switchings = append(t.switchings, switching{s.Elem, ref, time})
	return api.OK
}

// isKind reports whether a number is that of an element of a kind.
func (t *task) isKind(elem, kind int) bool {
	return elem >= 0 && elem < len(t.net.Elems) && t.net.Elems[elem].Kind == kind
}

func (t *task) readStart(from api.WvTask) (at int, e api.Errno) {
	t.start, at, e = numbers(from.Start...)
	return at, e
}

// readLimits reads how long steps and the wave are, and how exact.
func (t *task) readLimits(from api.WvTask) (int, api.Errno) {
	list, _, e := numbers(from.Step, from.End, from.Tol)
	if e != api.OK {
		return 0, e
	}
	t.step, t.end, t.tol, t.bits = list[0], list[1], list[2], from.Bits
	if value.Sign(t.step) <= 0 || value.Sign(t.end) <= 0 || value.Sign(t.tol) < 0 || !isBits(t.bits) {
		return 0, api.ErrRange
	}
	return 0, api.OK
}

// netFor is the net of a step from one time to another one, in memory of its own, or errLong if the value of a source is too long.
func (t *task) netFor(from, to value.Num) (api.Net, error) {
	n := copied(t.net)
	for _, s := range t.sources {
		x := s.at(to)
		if isLong(x) {
			return api.Net{}, errLong
		}
		n.Elems[s.elem].Val = value.Text(x)
	}
	for _, s := range t.switchings {
		if value.Cmp(s.time, from) <= 0 {
			n.Elems[s.elem].Ref = s.ref
		}
	}
	return n, nil
}

// copied is a net in memory of its own.
func copied(n api.Net) api.Net {
	n.Elems, n.Models = slices.Clone(n.Elems), slices.Clone(n.Models)
	for i, m := range n.Models {
		n.Models[i].Breaks, n.Models[i].Pieces = slices.Clone(m.Breaks), slices.Clone(m.Pieces)
		for k, piece := range m.Pieces {
			n.Models[i].Pieces[k] = slices.Clone(piece)
		}
	}
	return n
}

// at is the value of a source at a time.
func (s source) at(time value.Num) value.Num {
	isBefore := func(t value.Num) bool { return value.Cmp(t, time) < 0 }
	next := 0
	for next < len(s.times) && isBefore(s.times[next]) {
		next++
	}
	switch next {
	case 0:
		return s.vals[0]
	case len(s.times):
		return s.vals[next-1]
	}
	first, second := s.times[next-1], s.times[next]
	part := over(value.Sub(time, first), value.Sub(second, first))
	rise := value.Sub(s.vals[next], s.vals[next-1])
	return value.Add(s.vals[next-1], value.Mul(part, rise))
}

// stops yields the end, and all times at which something happens, also those that a wave has behind it or never comes to.
func (t *task) stops() iter.Seq[value.Num] {
	return func(yield func(value.Num) bool) {
		if !yield(t.end) {
			return
		}
		for _, s := range t.sources {
			for _, time := range s.times {
				if !yield(time) {
					return
				}
			}
		}
		for _, s := range t.switchings {
			if !yield(s.time) {
				return
			}
		}
	}
}

// stopAfter is the least stop above a time below the end.
func (t *task) stopAfter(time value.Num) value.Num {
	next := t.end
	for stop := range t.stops() {
		if value.Cmp(stop, time) > 0 {
			next = value.Min(next, stop)
		}
	}
	return next
}
