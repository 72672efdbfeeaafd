package wave

import (
	"slices"

	"pentode/api"
	"pentode/points"
	"pentode/value"
)

// flow is an integrating net: its capacitances tell how fast the voltages of its nodes rise.
type flow struct {
	net          api.Net
	capacitances []value.Span // for each node from 1 on
}

// flowIn reads an integrating net and a box for it, or returns the error with which functions of both begin.
func flowIn(n api.Net, ranges []api.Range) (flow, []value.Span, api.Errno) {
	size, e := points.Size(n)
	if e != api.OK {
		return flow{}, nil, e
	}
	f, ok := flowOf(n)
	switch {
	case !ok:
		return flow{}, nil, ErrKind
	case len(ranges) != size:
		return flow{}, nil, api.ErrArg
	}
	box, e := boxOf(ranges)
	return f, box, e
}

// flowOf returns the flow of a valid net, and whether this is an integrating one.
func flowOf(n api.Net) (flow, bool) {
	sums := make([]value.Num, n.Nodes+1) // that of the ground means nothing
	for _, e := range n.Elems {
		switch e.Kind {
		case api.ElC:
			if e.A != 0 && e.B != 0 {
				return flow{}, false
			}
			val, _ := value.Parse(e.Val)
			node := max(e.A, e.B)
			sums[node] = value.Add(sums[node], val)
		case api.ElL, api.ElV, api.ElE, api.ElF, api.ElH, api.ElQ:
			return flow{}, false
		}
	}
	f := flow{net: n}
	for _, sum := range sums[1:] {
		if value.Sign(sum) == 0 {
			return flow{}, false
		}
		f.capacitances = append(f.capacitances, value.Point(sum))
	}
	return f, true
}

// rate is how fast the voltage of the node k + 1 rises by a current out of it.
func (f flow) rate(k int, current value.Span) value.Span {
	rate, _ := value.SpanDiv(value.SpanNeg(current), f.capacitances[k])
	return rate
}

// rates are how fast the voltages rise in a box.
func (f flow) rates(box []value.Span) []value.Span {
	rates, _ := points.Reach(f.net, box)
	for k, current := range rates {
		rates[k] = f.rate(k, current)
	}
	return rates
}

// bends are how fast the rates change in a box, where the voltages rise with these rates.
func (f flow) bends(box, rates []value.Span) []value.Span {
	slopes, _ := points.Slopes(f.net, box)
	bends := make([]value.Span, len(slopes))
	for k, row := range slopes {
		for i, s := range row {
			bends[k] = value.SpanAdd(bends[k], value.SpanMul(f.rate(k, s), rates[i]))
		}
	}
	return bends
}

// after is the box after a step of the length h from the box x.
func (f flow) after(x []value.Span, h value.Num, bits int) ([]value.Span, error) {
	moved := func(from []value.Span, time value.Span, rates []value.Span) []value.Span {
		to := make([]value.Span, len(from))
		for k, s := range from {
			to[k] = value.SpanAdd(s, value.SpanMul(time, rates[k]))
		}
		return to
	}
	during, end := value.Span{Hi: h}, value.Point(h)
	b, err := around(x, bits, func(box []value.Span) []value.Span {
		return moved(x, during, f.rates(box))
	})
	if err != nil {
		return nil, err
	}
	rates := f.rates(b)
	after := moved(x, end, rates)
	straight := moved(x, end, f.rates(x))
	bent := moved(straight, value.Point(half(value.Mul(h, h))), f.bends(b, rates))
	for k, s := range after {
		meet, _ := value.SpanMeet(s, bent[k]) // both have the wave, so they have something in common
		after[k] = value.SpanOut(meet, bits)
	}
	if isAnyLong(after) {
		return nil, errLong
	}
	return after, nil
}

// around is a box in which all waves stay during a step from the box x, if one is found: there they reach nothing but what is in it.
func around(x []value.Span, bits int, reached func(box []value.Span) []value.Span) ([]value.Span, error) {
	b := reached(x)
	for tries := range api.MaxTries {
		w := reached(b)
		switch {
		case isWithin(w, b):
			return b, nil
		case isFar(w):
			return nil, failure{"a box that is not too far", tries}
		}
		for k, s := range b {
			b[k] = wider(value.SpanJoin(s, w[k]), bits)
		}
	}
	return nil, failure{"a box that waves do not leave", api.MaxTries}
}

func isWithin(inner, outer []value.Span) bool {
	for k, s := range inner {
		if !value.SpanHas(outer[k], s.Lo) || !value.SpanHas(outer[k], s.Hi) {
			return false
		}
	}
	return true
}

// isFar reports whether an end of a box is too far from 0.
func isFar(box []value.Span) bool {
	far := value.Int(1)
	for range api.MaxWvFar {
		far = value.Add(far, far)
	}
	return slices.ContainsFunc(box, func(s value.Span) bool {
		return value.Cmp(s.Lo, value.Neg(far)) < 0 || value.Cmp(s.Hi, far) > 0
	})
}

// wider is a span with an eighth of its width more on each side, rounded outward.
func wider(s value.Span, bits int) value.Span {
	more := over(value.SpanWidth(s), value.Int(8))
	return value.SpanOut(value.Span{Lo: value.Sub(s.Lo, more), Hi: value.Add(s.Hi, more)}, bits)
}

func isAnyLong(box []value.Span) bool {
	return slices.ContainsFunc(box, func(s value.Span) bool { return isLong(s.Lo) || isLong(s.Hi) })
}

// traps reports whether no wave leaves a box.
func (f flow) traps(box []value.Span) bool {
	// rate is that of the node k + 1 where it has this voltage.
	rate := func(k int, volts value.Num) value.Span {
		side := slices.Clone(box)
		side[k] = value.Point(volts)
		return f.rates(side)[k]
	}
	for k, s := range box {
		if value.Sign(rate(k, s.Lo).Lo) < 0 || value.Sign(rate(k, s.Hi).Hi) > 0 {
			return false
		}
	}
	return true
}
