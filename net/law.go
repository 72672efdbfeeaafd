package net

import (
	"slices"

	"pentode/api"
	"pentode/value"
)

// Law returns the value of a model.
func Law(m api.Model, g, v value.Num) (value.Num, api.Errno) {
	if e := checkModel(m); e != api.OK {
		return value.Num{}, e
	}
	if m.Kind == api.MdCurve {
		return curve(m, v), api.OK
	}
	return square(parsed(m.Kp), parsed(m.Vt), g, v), api.OK
}

// curve returns the value of the first piece that holds at v.
func curve(m api.Model, v value.Num) value.Num {
	k := 0
	for k < len(m.Breaks) && value.Cmp(v, parsed(m.Breaks[k])) > 0 {
		k++
	}
	return polynomial(m.Pieces[k], v)
}

// polynomial returns the value of a piece at x.
func polynomial(piece []api.Val, x value.Num) value.Num {
	var sum value.Num
	for _, c := range slices.Backward(piece) {
		sum = value.Add(value.Mul(sum, x), parsed(c))
	}
	return sum
}

func square(kp, vt, g, v value.Num) value.Num {
	if value.Sign(v) < 0 {
		return value.Neg(square(kp, vt, value.Sub(g, v), value.Neg(v)))
	}
	over := value.Sub(g, vt)
	if value.Sign(over) <= 0 {
		return value.Int(0)
	}
	// beyond over the current stays what it is there
	v = value.Min(v, over)
	half, _ := value.Ratio(1, 2)
	return value.Mul(kp, value.Mul(v, value.Sub(over, value.Mul(half, v))))
}
