package probe

import (
	"pentode/api"
	"pentode/value"
)

// meter is a meter with numbers in place of texts.
type meter struct {
	fixed value.Num // how far a reading may be from the value 0
	rel   value.Num
	step  value.Num
}

func meterOf(from api.PbMeter) (meter, error) {
	parts := [...]struct {
		name string
		text api.Val
	}{{"Abs", from.Abs}, {"Rel", from.Rel}, {"Step", from.Step}}
	var nums [3]value.Num
	for i, p := range parts {
		x, e := value.Parse(p.text)
		if e != api.OK {
			return meter{}, wrongMeter{p.name, e}
		}
		nums[i] = x
	}
	for i, x := range nums {
		if value.Sign(x) < 0 {
			return meter{}, wrongMeter{parts[i].name, api.ErrRange}
		}
	}
	abs, rel, step := nums[0], nums[1], nums[2]
	if value.Cmp(rel, value.Int(1)) >= 0 {
		return meter{}, wrongMeter{"Rel", api.ErrRange}
	}
	return meter{value.Add(abs, over(step, value.Int(2))), rel, step}, nil
}

// metersOf reads all meters of a task, or returns the first error.
func metersOf(from []api.PbMeter) ([]meter, error) {
	var list []meter
	for i, m := range from {
		k, err := meterOf(m)
		if err != nil {
			return nil, atMeter{i, err}
		}
		list = append(list, k)
	}
	return list, nil
}

// stretch is 1 + Rel, or, with a sign below 0, 1 - Rel.
func (m meter) stretch(sign int) value.Num {
	return value.Add(value.Int(1), value.Mul(m.rel, value.Int(int64(sign))))
}

// sense are the values for which a reading is possible.
func (m meter) sense(reading value.Num) value.Span {
	lo, hi := value.Sub(reading, m.fixed), value.Add(reading, m.fixed)
	return value.Span{
		Lo: over(lo, m.stretch(value.Sign(lo))),
		Hi: over(hi, m.stretch(-value.Sign(hi))),
	}
}

// readings are those that are possible for values: the least one grows with the value, as Rel is below 1, and so does the greatest one.
func (m meter) readings(of value.Span) value.Span {
	lo := value.Mul(of.Lo, m.stretch(-value.Sign(of.Lo)))
	hi := value.Mul(of.Hi, m.stretch(value.Sign(of.Hi)))
	return value.Span{Lo: value.Sub(lo, m.fixed), Hi: value.Add(hi, m.fixed)}
}

// shown is what the meter shows for a value.
func (m meter) shown(x value.Num) value.Num {
	if value.Sign(m.step) == 0 {
		return value.Max(x, x) // which is in memory of its own
	}
	steps := value.Add(over(x, m.step), over(value.Int(1), value.Int(2)))
	return value.Mul(value.Floor(steps), m.step)
}

// over is x divided by y, which is not 0.
func over(x, y value.Num) value.Num {
	quotient, _ := value.Div(x, y)
	return quotient
}
