package plan_test

import (
	"math"
	"slices"
	"strings"
	"testing"

	"pentode/api"
	"pentode/plan"
)

// isChecked holds the results of Check against what they have to be, and that all other functions return the error first.
func isChecked(t *testing.T, what string, l api.PlLayout, part, at int, e api.Errno) {
	t.Helper()
	if p, i, f := plan.Check(l); p != part || i != at || f != e {
		t.Errorf("Check of %s = %d, %d, %d, not %d, %d, %d", what, p, i, f, part, at, e)
	}
	if e == api.OK {
		return
	}
	for _, layer := range []int{api.LyPoly, -1} {
		if c, f := plan.Cells(l, layer); c != nil || f != e {
			t.Errorf("Cells of %s = %v, %d", what, c, f)
		}
	}
	if n, f := plan.Node(l, 99, api.PlCell{X: -1}); n != 0 || f != e {
		t.Errorf("Node of %s = %d, %d", what, n, f)
	}
	hasError(t, what, l, e)
	if is, f := plan.Guarded(l, api.PlCell{X: -1}, -1); is || f != e {
		t.Errorf("Guarded of %s = %t, %d", what, is, f)
	}
	if is, f := plan.Matched(l, -1, -1); is || f != e {
		t.Errorf("Matched of %s = %t, %d", what, is, f)
	}
}

func TestP9_1Sizes(t *testing.T) {
	l := transistor()
	l.Rects = append(l.Rects, slices.Repeat([]api.PlRect{{Layer: api.LyMetal, X: 9, W: 1, H: 1}}, 118)...)
	l.Labels = append(l.Labels, slices.Repeat([]api.PlLabel{{Name: "m", Layer: api.LyMetal, X: 9}}, 21)...)
	isChecked(t, "120 rectangles and 24 labels", l, 0, 0, api.OK)
	many := l
	many.Rects = append(slices.Clone(l.Rects), api.PlRect{})
	many.Tech.Sheet = "x"
	isChecked(t, "121 rectangles", many, 0, 0, api.ErrLong)
	many = l
	many.Labels = append(slices.Clone(l.Labels), api.PlLabel{})
	isChecked(t, "25 labels", many, 0, 0, api.ErrLong)
	isChecked(t, "a layout of nothing", api.PlLayout{Tech: tech()}, 0, 0, api.OK)
	isChecked(t, "nothing at all", api.PlLayout{}, 1, 0, api.ErrForm)
}

func TestP9_1Technology(t *testing.T) {
	type change = func(k *api.PlTech, v api.Val)
	changes := []change{
		func(k *api.PlTech, v api.Val) { k.Sheet = v }, func(k *api.PlTech, v api.Val) { k.Area = v }, func(k *api.PlTech, v api.Val) { k.Cross = v },
		func(k *api.PlTech, v api.Val) { k.Kp = v }, func(k *api.PlTech, v api.Val) { k.Vt = v },
	}
	long := digits(1001)
	rangeIf := func(is bool) api.Errno { return map[bool]api.Errno{true: api.ErrRange}[is] }
	for i, set := range changes {
		for _, c := range []struct {
			v api.Val
			e api.Errno
		}{
			{"1/2", api.OK}, {digits(1000), api.OK}, {"", api.ErrForm}, {"2/4", api.ErrForm}, {"1k", api.ErrForm}, {long, api.ErrLong},
			{"0", rangeIf(i == 0 || i == 3)}, {"-1", rangeIf(i < 4)},
		} {
			l := transistor()
			set(&l.Tech, c.v)
			part := 1
			if c.e == api.OK {
				part = 0
			}
			isChecked(t, "the part "+string(rune('0'+i))+" of a technology, "+string(c.v[:min(len(c.v), 20)]), l, part, 0, c.e)
		}
	}
	// All texts are looked at, in order, before numbers that are not as stated.
	for i, set := range changes {
		for k, also := range changes {
			l := transistor()
			l.Rects[0].Layer = 0
			set(&l.Tech, "-1")
			also(&l.Tech, "x")
			isChecked(t, "a number below 0 and none", l, 1, 0, api.ErrForm)
			set(&l.Tech, long)
			isChecked(t, "a long number and none", l, 1, 0, map[bool]api.Errno{true: api.ErrLong, false: api.ErrForm}[i <= k])
		}
	}
}

func TestP9_1Rectangles(t *testing.T) {
	for _, c := range []struct {
		r api.PlRect
		e api.Errno
	}{
		{api.PlRect{Layer: 3, W: 32, H: 32}, api.OK},
		{api.PlRect{Layer: 7, X: 31, Y: 31, W: 1, H: 1}, api.OK},
		{api.PlRect{Layer: 4, X: 30, Y: 0, W: 2, H: 32}, api.OK},
		{api.PlRect{Layer: 0, W: 1, H: 1}, api.ErrArg},
		{api.PlRect{Layer: 8, W: 1, H: 1}, api.ErrArg},
		{api.PlRect{Layer: -1}, api.ErrArg},
		{api.PlRect{Layer: math.MaxInt, X: -1}, api.ErrArg},
		{api.PlRect{Layer: 4, W: 0, H: 1}, api.ErrRange},
		{api.PlRect{Layer: 4, W: 1, H: 0}, api.ErrRange},
		{api.PlRect{Layer: 4, W: -1, H: 1}, api.ErrRange},
		{api.PlRect{Layer: 4, W: 1, H: -1}, api.ErrRange},
		{api.PlRect{Layer: 4, X: -1, W: 1, H: 1}, api.ErrRange},
		{api.PlRect{Layer: 4, X: -1, W: 2, H: 1}, api.ErrRange},
		{api.PlRect{Layer: 4, Y: -1, W: 1, H: 1}, api.ErrRange},
		{api.PlRect{Layer: 4, Y: -5, W: 1, H: 9}, api.ErrRange},
		{api.PlRect{Layer: 4, X: 32, W: 1, H: 1}, api.ErrRange},
		{api.PlRect{Layer: 4, Y: 32, W: 1, H: 1}, api.ErrRange},
		{api.PlRect{Layer: 4, X: 31, W: 2, H: 1}, api.ErrRange},
		{api.PlRect{Layer: 4, Y: 30, W: 1, H: 3}, api.ErrRange},
		{api.PlRect{Layer: 4, W: 33, H: 1}, api.ErrRange},
		{api.PlRect{Layer: 4, X: math.MaxInt, W: math.MaxInt, H: 1}, api.ErrRange},
		{api.PlRect{Layer: 4, X: 2, W: math.MaxInt, H: 1}, api.ErrRange},
		{api.PlRect{Layer: 4, Y: math.MaxInt, W: 1, H: 2}, api.ErrRange},
		{api.PlRect{Layer: 4, X: math.MinInt, W: math.MinInt, H: 1}, api.ErrRange},
	} {
		// Mark alone, metal and the like make no cell wrong.
		l := api.PlLayout{Tech: tech(), Rects: []api.PlRect{{Layer: 4, W: 1, H: 1}, c.r, {Layer: 99}}, Labels: []api.PlLabel{{Name: "A"}}}
		if c.e == api.OK {
			l.Rects, l.Labels = l.Rects[:2], nil
			isChecked(t, "rectangles", l, 0, 0, api.OK)
		} else {
			isChecked(t, "a rectangle", l, 2, 1, c.e)
		}
	}
}

func TestP9_1Labels(t *testing.T) {
	for _, c := range []struct {
		label api.PlLabel
		e     api.Errno
	}{
		{api.PlLabel{Name: "0", Layer: 1}, api.OK},
		{api.PlLabel{Name: "00", Layer: 2, X: 31, Y: 31}, api.OK},
		{api.PlLabel{Name: "9.a_b", Layer: 4}, api.OK},
		{api.PlLabel{Name: strings.Repeat("z", 40), Layer: 6}, api.OK},
		{api.PlLabel{Name: "a", Layer: 3}, api.ErrArg},
		{api.PlLabel{Name: "a", Layer: 5}, api.ErrArg},
		{api.PlLabel{Name: "a", Layer: 7}, api.ErrArg},
		{api.PlLabel{Name: "", Layer: 0}, api.ErrArg},
		{api.PlLabel{Name: "A", Layer: math.MinInt, X: -1}, api.ErrArg},
		{api.PlLabel{Name: "", Layer: 1}, api.ErrForm},
		{api.PlLabel{Name: "A", Layer: 1, X: -1}, api.ErrForm},
		{api.PlLabel{Name: "_a", Layer: 1}, api.ErrForm},
		{api.PlLabel{Name: ".", Layer: 1}, api.ErrForm},
		{api.PlLabel{Name: "a b", Layer: 1}, api.ErrForm},
		{api.PlLabel{Name: "a\n", Layer: 1}, api.ErrForm},
		{api.PlLabel{Name: "a-", Layer: 1}, api.ErrForm},
		{api.PlLabel{Name: "é", Layer: 1}, api.ErrForm},
		{api.PlLabel{Name: strings.Repeat("z", 41), Layer: 1}, api.ErrForm},
		{api.PlLabel{Name: "a", Layer: 1, X: -1}, api.ErrRange},
		{api.PlLabel{Name: "a", Layer: 1, Y: -1}, api.ErrRange},
		{api.PlLabel{Name: "a", Layer: 1, X: 32}, api.ErrRange},
		{api.PlLabel{Name: "a", Layer: 1, Y: math.MaxInt}, api.ErrRange},
	} {
		l := layout("diff 0 0 1 1, diff 3 0 1 1, poly 0 0 1 1, mark 0 0 1 1", "")
		l.Labels = []api.PlLabel{{Name: "a", Layer: 1, X: 9, Y: 9}, c.label, {Layer: 99}}
		if c.e == api.OK {
			l.Labels, l.Rects = l.Labels[:2], l.Rects[:1]
			isChecked(t, "labels", l, 0, 0, api.OK)
		} else {
			isChecked(t, "the label "+c.label.Name, l, 3, 1, c.e)
		}
	}
}

func TestP9_1Cells(t *testing.T) {
	for _, c := range []struct {
		rects string
		at    int // or 0
	}{
		{"poly 0 0 6 1, mark 1 0 4 1, diff 2 0 1 1", 2},
		{"poly 0 0 9 9, mark 3 5 4 4, diff 2 4 3 3", 5*32 + 3},
		{"poly 31 31 1 1, diff 31 31 1 1, mark 31 31 1 1", 1023},
		{"poly 5 2 1 9, poly 9 2 1 9, mark 5 8 5 1, mark 8 7 2 1, diff 5 7 5 3", 7*32 + 9},
		{"diff 0 0 9 9, mark 0 0 9 9, metal 0 0 9 9, cut 0 0 9 9, top 0 0 9 9, via 0 0 9 9", 0},
		{"diff 0 0 9 9, poly 0 0 9 9, metal 0 0 9 9, cut 0 0 9 9", 0},
	} {
		part, e := 4, plan.ErrRule
		if c.at == 0 {
			part, e = 0, api.OK
		}
		isChecked(t, c.rects, layout(c.rects, ""), part, c.at, e)
	}
	// A cell 0 that is wrong has the number 0.
	isChecked(t, "the first cell", layout("diff 0 0 1 1, poly 0 0 1 1, mark 0 0 1 1", ""), 4, 0, plan.ErrRule)
}

func TestP9_1CellsOfLayers(t *testing.T) {
	l := layout("diff 0 0 2 1, poly 4 4 1 1, mark 1 2 2 2, mark 2 3 2 1, mark 0 3 1 1, metal 31 31 1 1, cut 0 5 1 1, via 5 0 1 1", "")
	for layer, want := range []string{"", "0 0, 1 0", "4 4", "1 2, 2 2, 0 3, 1 3, 2 3, 3 3", "31 31", "0 5", "", "5 0"} {
		if c, e := plan.Cells(l, layer); layer > 0 && (!slices.Equal(c, cells(want)) || e != api.OK) {
			t.Errorf("Cells of %d = %v, %d", layer, c, e)
		}
	}
	for _, layer := range []int{0, 8, -1, math.MaxInt, math.MinInt} {
		if c, e := plan.Cells(l, layer); c != nil || e != api.ErrArg {
			t.Errorf("Cells of %d = %v, %d", layer, c, e)
		}
	}
	// Errors of the nodes are none of Cells.
	l.Labels = []api.PlLabel{{Name: "a", Layer: api.LyTop}}
	if c, e := plan.Cells(l, api.LyPoly); len(c) != 1 || e != api.OK {
		t.Errorf("Cells = %v, %d", c, e)
	}
}
