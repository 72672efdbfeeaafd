package wave

import (
	"pentode/api"
	"pentode/value"
)

// Cross returns where a voltage crosses a level.
func Cross(l []api.WvStep, start []api.Val, a, b int, level api.Val) ([]api.WvCross, api.Errno) {
	switch {
	case len(l) > api.MaxWvSteps:
		return nil, api.ErrLong
	case !isNode(a) || !isNode(b):
		return nil, api.ErrRange
	}
	base, e := value.Parse(level)
	if e != api.OK {
		return nil, e
	}
	heights, e := heightsOf(l, start, a, b, base)
	if e != api.OK {
		return nil, e
	}
	lines, e := linesOf(l, heights)
	if e != api.OK {
		return nil, e
	}
	var list []api.WvCross
	for i, line := range lines {
		if !line.crosses() {
			continue
		}
		time := line.zero()
		if isLong(time) {
			return nil, api.ErrLong
		}
		list = append(list, api.WvCross{Step: i, Time: value.Text(time), Up: line.isBelow()})
	}
	return list, api.OK
}

func isNode(node int) bool {
	return node >= 0 && node <= api.MaxNodes
}

// heightsOf returns how far the voltage is above the level at the start, and at the end of each step.
func heightsOf(l []api.WvStep, start []api.Val, a, b int, level value.Num) ([]value.Num, api.Errno) {
	rows := [][]api.Val{start}
	for _, s := range l {
		rows = append(rows, s.X)
	}
	var heights []value.Num
	for _, x := range rows {
		if len(x) < max(a, b) {
			return nil, api.ErrArg
		}
		volts, _, e := numbers(voltsAt(x, a), voltsAt(x, b))
		if e != api.OK {
			return nil, e
		}
		heights = append(heights, value.Sub(value.Sub(volts[0], volts[1]), level))
	}
	return heights, api.OK
}

// voltsAt is the voltage of a node.
func voltsAt(x []api.Val, node int) api.Val {
	if node == 0 {
		return "0"
	}
	return x[node-1]
}

// line is how a voltage goes from one height to another one, in a step of the length h from a time on.
type line struct {
	from, to, time, h value.Num
}

// linesOf returns the line of each step.
func linesOf(l []api.WvStep, heights []value.Num) ([]line, api.Errno) {
	var lines []line
	for i, s := range l {
		times, _, e := numbers(s.Time, s.H)
		if e != api.OK {
			return nil, e
		}
		end, h := times[0], times[1]
		lines = append(lines, line{heights[i], heights[i+1], value.Sub(end, h), h})
	}
	return lines, api.OK
}

// crosses reports whether a line comes to 0 from above or below.
func (l line) crosses() bool {
	from, to := value.Sign(l.from), value.Sign(l.to)
	return from != 0 && from != to
}

// isBelow reports whether a line begins below 0.
func (l line) isBelow() bool {
	return value.Sign(l.from) < 0
}

// zero is the time at which a line that crosses 0 is there.
func (l line) zero() value.Num {
	part := over(l.from, value.Sub(l.from, l.to))
	return value.Add(l.time, value.Mul(part, l.h))
}
