package spread_test

import (
	"fmt"
	"testing"

	"pentode/api"
	"pentode/spread"
	"pentode/value"
)

func TestP7_3Regular(t *testing.T) {
	g := newNumbers()
	regular, others := 0, 0
	for range 1500 {
		k := g.task(g.below(5), g.below(9), g.below(5))
		_, want := corners(k, boxOf(k))
		if is, e := spread.Regular(k); is != want || e != api.OK {
			t.Fatalf("%v: Regular = %t, %d", k, is, e)
		}
		if want {
			regular++
		} else {
			others++
		}
	}
	if regular < 300 || others < 300 {
		t.Errorf("%d regular tasks, %d others", regular, others)
	}
}

// Determinants that are 0 at a vertex, or have both signs, though there is a value at all vertices, or in the middle.
func TestP7_3Edges(t *testing.T) {
	for box, want := range map[string]bool{
		"-1/2 0": true, "-1 0": false, "-2 0": false, "-2 -1": false, "-3 -2": true, "-1 -1": false, "0 0": true,
		"-1000001/1000000 0": false, "-999999/1000000 0": true,
	} {
		k := balance(t, box)
		is, e := spread.Regular(k)
		if is != want || e != api.OK {
			t.Errorf("Regular of %s = %t, %d", box, is, e)
		}
		if w, e := spread.Worst(k); (e == api.OK) != want || !want && (e != api.ErrSingular || w != api.SpWorst{}) {
			t.Errorf("Worst of %s = %v, %d", box, w, e)
		}
	}
	// A net without parameters.
	for lines, want := range map[string]bool{"r r 1 0 1": true, "c c 1 0 1": false, "v v 1 0 1": true, "v v 1 0 1; v w 1 0 1": false} {
		if is, e := spread.Regular(task(t, lines, 0, nil, "")); is != want || e != api.OK {
			t.Errorf("Regular of %s = %t, %d", lines, is, e)
		}
	}
	// Two parameters whose product decides: 1 + g f.
	k := task(t, "r r1 1 0 1; r r2 2 0 1; g g1 1 0 2 0 0; g g2 0 2 1 0 0; i i1 0 1 1", 0, []int{2, 3}, "-1 1 -1 1")
	if is, e := spread.Regular(k); is || e != api.OK {
		t.Errorf("Regular = %t, %d", is, e)
	}
	k.Ranges = ranges("-1 1 -1/2 1/2")
	if is, e := spread.Regular(k); !is || e != api.OK {
		t.Errorf("Regular = %t, %d", is, e)
	}
}

func TestP7_4Worst(t *testing.T) {
	g := newNumbers()
	found := 0
	for range 900 {
		k := g.task(g.below(5), g.below(9), g.below(7))
		want, _, ok := worst(k, boxOf(k))
		w, e := spread.Worst(k)
		if !ok {
			if w != (api.SpWorst{}) || e != api.ErrSingular {
				t.Fatalf("%v: Worst = %v, %d", k, w, e)
			}
			continue
		}
		if w != want || e != api.OK {
			t.Fatalf("%v: Worst = %v, %d, not %v", k, w, e, want)
		}
		if w.Lo != w.Hi && w.LoAt+w.HiAt > 1 {
			found++
		}
	}
	if found < 150 {
		t.Errorf("%d pairs of worst values", found)
	}
}

// Of several vertices with the same value it is the least number.
func TestP7_4Ties(t *testing.T) {
	for _, c := range []struct {
		box  string
		want api.SpWorst
	}{
		{"1 1 1/2 3/2", api.SpWorst{Lo: "4", Hi: "36/5", LoAt: 0, HiAt: 2}},
		{"1 3 1 1", api.SpWorst{Lo: "3", Hi: "6", LoAt: 1, HiAt: 0}},
		{"2 2 1 1", api.SpWorst{Lo: "4", Hi: "4"}},
	} {
		k := divider(t)
		k.Ranges = ranges(c.box)
		if w, e := spread.Worst(k); w != c.want || e != api.OK {
			t.Errorf("Worst of %s = %v, %d", c.box, w, e)
		}
	}
	// Nothing depends on the parameters: both ends at the same node, a switch beside the source.
	k := task(t, "v v 1 0 12; r r1 1 1 2; s s1 1 0 on 1; g g1 1 2 0 0 1; r r2 2 0 1", 0, []int{1, 2, 3}, "1 2 1 2 1 2")
	if w, e := spread.Worst(k); w != (api.SpWorst{Lo: "12", Hi: "12"}) || e != api.OK {
		t.Errorf("Worst = %v, %d", w, e)
	}
	k.Elems, k.Ranges = nil, nil
	if w, e := spread.Worst(k); w != (api.SpWorst{Lo: "12", Hi: "12"}) || e != api.OK {
		t.Errorf("Worst without parameters = %v, %d", w, e)
	}
	// Two sources in series: the vertices 1 and 2 have the same value, which is neither.
	k = task(t, "v v 1 0 1; v w 2 1 1; r r 2 0 1", 1, []int{0, 1}, "0 1 0 1")
	if w, e := spread.Worst(k); w != (api.SpWorst{Lo: "0", Hi: "2", LoAt: 0, HiAt: 3}) || e != api.OK {
		t.Errorf("Worst = %v, %d", w, e)
	}
}

// digitsOf are so many digits, the first and the last one not 0.
func (g *numbers) digitsOf(n int) api.Val {
	text := "7"
	for range n - 2 {
		text += fmt.Sprint(g.below(10))
	}
	return api.Val(text + "3")
}

// fraction is one of two rows of so many digits.
func (g *numbers) fraction(n int) value.Num {
	for {
		if x, e := value.Parse(g.digitsOf(n) + "/" + g.digitsOf(n)); e == api.OK {
			return x
		}
	}
}

// Texts of worst values may be longer than Vals are.
func TestP7_4Long(t *testing.T) {
	g := newNumbers()
	k := task(t, "v v 1 0 1; r r1 1 2 1; r r2 2 3 1; r r3 3 4 1; r r4 2 0 1; r r5 3 0 1; r r6 4 0 1", 3, []int{1, 2, 3, 4, 5, 6}, "")
	for range 6 {
		a, b := g.fraction(200), g.fraction(200)
		k.Ranges = append(k.Ranges, value.SpanText(value.Span{Lo: value.Min(a, b), Hi: value.Max(a, b)}))
	}
	want, ends, _ := worst(k, boxOf(k))
	if w, e := spread.Worst(k); w != want || e != api.OK || len(ends.lo.Num().String()) <= 1000 {
		t.Errorf("Worst = %.100v, %d, of %d digits", w, e, len(ends.lo.Num().String()))
	}
	// Other elements may have long values, too, and denominators of equations are even longer.
	k.Elems, k.Ranges = k.Elems[:2], k.Ranges[:2]
	for i := 3; i < 7; i++ {
		k.Net.Elems[i].Val = value.Text(g.fraction(1000))
	}
	want, _, _ = worst(k, boxOf(k))
	if w, e := spread.Worst(k); w != want || e != api.OK {
		t.Errorf("Worst = %.100v, %d", w, e)
	}
}

// T4: everywhere in the box of a regular task there is a value within the worst ones, which are attained.
func TestP7_9Theorem(t *testing.T) {
	g := newNumbers()
	for range 400 {
		k := g.regular(4, 8, 6)
		w, _ := spread.Worst(k)
		lo, hi := frac(w.Lo), frac(w.Hi)
		for range 12 {
			x := g.inside(k)
			v, e := spread.At(k, x)
			if e != api.OK || frac(value.Text(v)).Cmp(lo) < 0 || frac(value.Text(v)).Cmp(hi) > 0 {
				t.Fatalf("%v: %s at %s, %d, but the worst values are %v", k, value.Text(v), show(x), e, w)
			}
		}
		v, e := spread.Vertex(k, w.LoAt)
		check(t, "the least value", v, e, w.Lo, api.OK)
		v, e = spread.Vertex(k, w.HiAt)
		check(t, "the greatest value", v, e, w.Hi, api.OK)
	}
}
