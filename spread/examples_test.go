package spread_test

import (
	"testing"

	"pentode/api"
	"pentode/spread"
)

// The examples of the chapter, row by row.
func TestExamplesOfValues(t *testing.T) {
	v := divider(t)
	x := nums(t, "2 1")
	at, e := spread.At(v, x)
	check(t, "At of V for 2, 1", at, e, "4", api.OK)
	at, e = spread.At(v, nums(t, "2 0"))
	check(t, "At of V for 2, 0", at, e, "", api.ErrRange)
	for mask, want := range map[int]api.Val{0: "4", 3: "4"} {
		at, e := spread.Vertex(v, mask)
		check(t, "Vertex of V", at, e, want, api.OK)
	}
	at, e = spread.Vertex(v, 4)
	check(t, "Vertex 4 of V", at, e, "", api.ErrRange)
	if w, e := spread.Worst(v); w != (api.SpWorst{Lo: "12/7", Hi: "36/5", LoAt: 1, HiAt: 2}) || e != api.OK {
		t.Errorf("Worst = %v, %d", w, e)
	}
	if l, e := spread.Slopes(v, x); show(l) != "-4/3 8/3" || e != api.OK {
		t.Errorf("Slopes = %s, %d", show(l), e)
	}
	if l, e := spread.Adjoint(v, x); show(l) != "0 2/3 1/3" || e != api.OK {
		t.Errorf("Adjoint = %s, %d", show(l), e)
	}
	mid, variance, e := spread.Variance(v)
	check(t, "Variance of V: middle", mid, e, "4", api.OK)
	check(t, "Variance of V", variance, e, "32/27", api.OK)
}

func TestExamplesOfRanges(t *testing.T) {
	v := divider(t)
	for _, c := range []struct {
		spec string
		want api.SpYield
	}{{"1 8", api.SpYield{Lo: "1", Hi: "1", Boxes: 1}}, {"4 8", api.SpYield{Lo: "0", Hi: "1", Boxes: 1}}} {
		if y, e := spread.Yield(v, span(c.spec), 0); y != c.want || e != api.OK {
			t.Errorf("Yield of %s = %v, %d", c.spec, y, e)
		}
	}
	if in, all, e := spread.Count(v, span("4 8"), 2); in != 3 || all != 4 || e != api.OK {
		t.Errorf("Count = %d, %d, %d", in, all, e)
	}
	r, e := spread.Scale(v, span("2 6"), 2)
	check(t, "Scale of V for 2 to 6", r, e, "1/2", api.OK)
	r, e = spread.Scale(v, span("5 6"), 2)
	check(t, "Scale of V for 5 to 6", r, e, "", api.ErrNone)
	n := task(t, "r r1 1 0 1; g g1 1 0 1 0 0", 0, []int{1}, "-2 0")
	if is, e := spread.Regular(n); is || e != api.OK {
		t.Errorf("Regular = %t, %d", is, e)
	}
}
