package probe

import (
	"slices"

	"pentode/api"
	"pentode/spread"
	"pentode/value"
)

// task is a task that has been checked, and its meters.
type task struct {
	api.PbTask
	meters []meter
}

// taskOf reads a task, or returns the error with which all functions begin.
func taskOf(from api.PbTask) (task, api.Errno) {
	k := task{PbTask: from}
	switch {
	case len(k.Outs) < 1 || len(k.Outs) > api.MaxOuts:
		return task{}, api.ErrRange
	case len(k.Meters) != len(k.Outs):
		return task{}, api.ErrArg
	}
	for i, out := range k.Outs {
		// Behind the first one, only the number of the unknown can be wrong.
		if e := spread.Check(k.whole(out)); e != api.OK {
			return task{}, e
		}
		if slices.Contains(k.Outs[:i], out) {
			return task{}, api.ErrArg
		}
	}
	meters, err := metersOf(k.Meters)
	switch {
	case err != nil:
		return task{}, errnoOf(err)
	case len(k.Faults) > api.MaxFaults:
		return task{}, api.ErrLong
	}
	for _, f := range k.Faults {
		if e := spread.Check(k.faulty(f, k.Outs[0])); e != api.OK {
			return task{}, e
		}
	}
	k.meters = meters
	return k, api.OK
}

// whole is the task of spread without a fault, for an unknown.
func (k task) whole(out int) api.SpTask {
	return api.SpTask{Net: k.Net, Elems: k.Elems, Ranges: k.Ranges, Out: out}
}

// faulty is the task of spread with a fault, for an unknown. There are as many Ranges as Elems.
func (k task) faulty(f api.PbFault, out int) api.SpTask {
	s := k.whole(out)
	s.Ranges = slices.Clone(s.Ranges)
	if at := slices.Index(s.Elems, f.Elem); at >= 0 {
		s.Ranges[at] = f.Range
		return s
	}
	s.Elems, s.Ranges = append(slices.Clone(s.Elems), f.Elem), append(s.Ranges, f.Range)
	return s
}

// numbered is the task of spread for the number of a fault, or 0, and an unknown.
func (k task) numbered(fault, out int) api.SpTask {
	if fault == 0 {
		return k.whole(out)
	}
	return k.faulty(k.Faults[fault-1], out)
}

// senses are the values for which readings are possible.
func (k task) senses(readings []api.Val) ([]value.Span, api.Errno) {
	if len(readings) != len(k.meters) {
		return nil, api.ErrArg
	}
	var list []value.Span
	for i, v := range readings {
		x, e := value.Parse(v)
		if e != api.OK {
			return nil, e
		}
		list = append(list, k.meters[i].sense(x))
	}
	return list, api.OK
}
