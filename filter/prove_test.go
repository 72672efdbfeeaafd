package filter_test

import (
	"math"
	"strings"
	"testing"

	"pentode/api"
	"pentode/filter"
	"pentode/value"
)

// proves holds what Prove returns for a task against what it has to be.
func proves(t *testing.T, what string, task api.FlTask, cuts int, verdict, band, vertex int, want api.Errno) {
	t.Helper()
	v, b, k, e := filter.Prove(task, cuts)
	if v != verdict || b != band || k != vertex || e != want {
		t.Errorf("%s: Prove with %d cuts = %d, %d, %d, %d, not %d, %d, %d, %d", what, cuts, v, b, k, e, verdict, band, vertex, want)
	}
}

func TestP8_7Prove(t *testing.T) {
	g := newNumbers()
	verdicts, bands := map[int]int{}, map[int]int{}
	for i := range 500 {
		task := g.task(i%5, 1+i%6)
		cuts := g.below(12)
		if i%10 == 0 {
			cuts = 40
		}
		verdict, band, vertex := proved(task, cuts)
		verdicts[verdict]++
		bands[band]++
		v, b, k, e := filter.Prove(task, cuts)
		if v != verdict || b != band || k != vertex || e != api.OK {
			t.Fatalf("%v: Prove with %d cuts = %d, %d, %d, %d, not %d, %d, %d", task, cuts, v, b, k, e, verdict, band, vertex)
		}
	}
	if min(verdicts[-1], verdicts[0], verdicts[1]) < 40 || min(bands[1], bands[2]) < 10 {
		t.Errorf("the verdicts are %v, the bands %v", verdicts, bands)
	}
}

// lowPass is 1 over 1 + x s, and the square of it at 1 is 1 / (1 + x x).
func lowPass(box, bands string) api.FlTask {
	return api.FlTask{Num: terms("1 0 0"), Den: terms("1 0 0, 1 1 1"), Box: ranges(box), Mask: mask(bands)}
}

// The number of cuts that a proof takes is the least one with which it ends.
func TestP8_7Cuts(t *testing.T) {
	// x / x: between the ends of a part of the range, its square seems to be from (lo / hi)^2 to (hi / lo)^2.
	same := api.FlTask{Num: terms("1 0 1"), Den: terms("1 0 1"), Box: ranges("1 2"), Mask: mask("0 0 1/4 4")}
	proves(t, "x / x", same, 0, 1, 0, 0, api.OK)
	same.Mask = mask("0 0 1/3 4")
	proves(t, "x / x", same, 0, 0, 0, 0, api.OK)
	proves(t, "x / x", same, 1, 1, 0, 0, api.OK)
	// The lower half is proved with two more cuts of its own; then the upper one with none.
	same.Mask = mask("0 0 1/4 4, 0 0 1/2 4")
	proves(t, "x / x", same, 1, 0, 1, 0, api.OK)
	proves(t, "x / x", same, 2, 1, 0, 0, api.OK)
	// With w as well, which makes no difference here, it is cut first, and then each part of it has to be cut again.
	same.Num, same.Den = terms("1 1 1"), terms("1 1 1")
	same.Mask = mask("1 2 1/5 4")
	proves(t, "s x / s x", same, 0, 0, 0, 0, api.OK)
	least := 0
	for ; least < api.MaxFlCuts; least++ {
		if verdict, _, _, _ := filter.Prove(same, least); verdict == 1 {
			break
		}
	}
	with, _, _ := proved(same, least)
	without, _, _ := proved(same, least-1)
	if least < 3 || with != 1 || without != 0 {
		t.Errorf("the proof takes %d cuts; the verdict has to be %d, and with a cut less %d", least, with, without)
	}
}

func TestP8_7SinglePoints(t *testing.T) {
	// Without any width nothing is cut: the reach is exact.
	proves(t, "a point", lowPass("1 1", "1 1 1/2 1/2"), 0, 1, 0, 0, api.OK)
	proves(t, "a point", lowPass("1 1", "1 1 1/2 1/2, 1 1 1/3 49/100"), 100, -1, 1, 0, api.OK)
	// 0 over 0 meets any mask, but a square of a reach that contains 0 does not tell it.
	nothing := api.FlTask{Mask: mask("0 1 1 2")}
	proves(t, "nothing", nothing, 0, 1, 0, 0, api.OK)
	// The terms are collected first: so the reach is that of 0, and of 1.
	cancelled := api.FlTask{Num: terms("1/3 1 1, 1 0 0, -1/3 1 1"), Den: terms("1 0 0"), Box: ranges("-9 9"), Mask: mask("0 1000 1 1")}
	proves(t, "terms that cancel", cancelled, 0, 1, 0, 0, api.OK)
	// The middle of the range alone does not meet it, which vertices do not tell.
	middle := api.FlTask{Num: terms("1 0 2"), Den: terms("1 0 0"), Box: ranges("-1 1"), Mask: mask("0 0 1/100 1")}
	proves(t, "the middle of a range", middle, 100, 0, 0, 0, api.OK)
	wide := api.FlTask{Num: terms("1 0 1"), Den: terms("1 0 0"), Box: ranges("0 1"), Mask: mask("0 5 0 1")}
	proves(t, "an end", wide, 0, 1, 0, 0, api.OK)
}

func TestP8_7Vertices(t *testing.T) {
	// The square at 0 is (x + 2 y + 4 z)^2.
	task := api.FlTask{Num: terms("1 0 1 0 0 0, 2 0 0 1 0 0, 4 0 0 0 1 0"), Den: terms("1 0 0 0 0 0"), Box: ranges("0 1 0 1 0 1 5 6")}
	for _, c := range []struct {
		mask            string
		verdict, vertex int
	}{{"0 0 0 49", 1, 0}, {"0 0 0 48", -1, 7}, {"0 0 0 35", -1, 6}, {"0 0 0 24", -1, 5}, {"0 0 0 15", -1, 4}, {"0 0 0 8", -1, 3}, {"0 0 0 1/2", -1, 1}, {"0 0 1/2 100", -1, 0}} {
		task.Mask = mask(c.mask)
		proves(t, c.mask, task, 5, c.verdict, 0, c.vertex, api.OK)
	}
	task.Mask = mask("0 1 0 49, 0 0 0 30, 0 0 0 10")
	proves(t, "the first band at the least vertex", task, 5, -1, 2, 4, api.OK)
}

func TestP8_7Errors(t *testing.T) {
	long := string(digits(1001))
	good := lowPass("1/2 1", "0 1 1/2 1")
	for _, c := range []struct {
		what   string
		change func(k *api.FlTask)
		cuts   int
		want   api.Errno
	}{
		{"nothing", func(k *api.FlTask) {}, 100, api.OK},
		{"five ranges", func(k *api.FlTask) { k.Box, k.Num = ranges("x x 1 1 1 1 1 1 1 1"), terms("x") }, -1, api.ErrLong},
		{"numerator", func(k *api.FlTask) { k.Num, k.Den = terms("1 0 0, 2/2 0 0"), terms("1 0") }, -1, api.ErrForm},
		{"numerator", func(k *api.FlTask) { k.Num, k.Den = terms("1 0 0 0"), terms("x 0 0") }, 0, api.ErrArg},
		{"numerator", func(k *api.FlTask) { k.Num = terms("1 0 41") }, 0, api.ErrRange},
		{"numerator", func(k *api.FlTask) { k.Num = make([]api.SyTerm, 2001) }, 0, api.ErrLong},
		{"denominator", func(k *api.FlTask) { k.Num, k.Den = terms("1 21 0"), terms("1 0 0 0") }, 0, api.ErrArg},
		{"denominator", func(k *api.FlTask) { k.Den, k.Box = terms("1 -1 0"), ranges("x 1") }, 0, api.ErrRange},
		{"power of s in the numerator", func(k *api.FlTask) { k.Num, k.Box = terms("1 21 0"), ranges("x 1") }, -1, api.ErrLong},
		{"power of s in the denominator", func(k *api.FlTask) { k.Den, k.Mask = terms("1 0 0, 1 40 0"), nil }, 0, api.ErrLong},
		{"the greatest powers", func(k *api.FlTask) { k.Num, k.Box = terms("1 20 40"), ranges("0 0"); k.Mask = mask("0 1 0 1") }, 0, api.OK},
		{"end", func(k *api.FlTask) { k.Box, k.Mask = ranges("x "+long), nil }, 0, api.ErrForm},
		{"end", func(k *api.FlTask) { k.Box, k.Mask = ranges("2 "+long), nil }, 0, api.ErrLong},
		{"range", func(k *api.FlTask) { k.Box, k.Mask = ranges("2 1"), mask("x 1 1 1") }, 0, api.ErrRange},
		{"mask", func(k *api.FlTask) { k.Mask = nil }, -1, api.ErrRange},
		{"mask", func(k *api.FlTask) { k.Mask = mask(strings.Repeat("x 1 0 1,", 7)) }, 0, api.ErrRange},
		{"mask", func(k *api.FlTask) { k.Mask = mask("0 1 0 1, 0 x 0 1") }, 101, api.ErrForm},
		{"mask", func(k *api.FlTask) { k.Mask = mask("0 1 0 1, 0 1 0 " + long) }, 0, api.ErrLong},
		{"mask", func(k *api.FlTask) { k.Mask = mask("0 1 0 1, 0 1 2 1") }, 0, api.ErrRange},
		{"cuts", func(k *api.FlTask) {}, -1, api.ErrRange},
		{"cuts", func(k *api.FlTask) {}, 101, api.ErrRange},
		{"cuts", func(k *api.FlTask) {}, math.MinInt, api.ErrRange},
		{"cuts", func(k *api.FlTask) { k.Box = ranges("5 6") }, math.MaxInt, api.ErrRange},
	} {
		task := good
		c.change(&task)
		verdict := 0
		if c.want == api.OK {
			verdict = 1
		}
		proves(t, c.what, task, c.cuts, verdict, 0, 0, c.want)
	}
	// Two ranges: the first one with an error decides.
	two := api.FlTask{Num: terms("1 0 0 0"), Den: terms("1 0 0 0"), Mask: mask("0 1 1 1")}
	for box, want := range map[string]api.Errno{"2 1 x 1": api.ErrRange, "1 2 1 x": api.ErrForm, "1 2 3 2": api.ErrRange, "-1 -1 0 0": api.OK} {
		two.Box = ranges(box)
		if _, _, _, e := filter.Prove(two, 0); e != want {
			t.Errorf("Prove with the ranges %s: %d", box, e)
		}
	}
}

func TestP8_12Prove(t *testing.T) {
	g := newNumbers()
	for i := range 300 {
		task := g.task(i%5, 1+i%5)
		num, den := formOf(task.Num), formOf(task.Den)
		verdict, band, vertex, e := filter.Prove(task, 20)
		switch {
		case e != api.OK:
			t.Fatal(e)
		case verdict == -1:
			x := corner(task.Box, vertex)
			n, d := numsOf(num.at(x)), numsOf(den.at(x))
			if got, _, e := filter.Meets(n, d, task.Mask); got != band || e != api.OK {
				t.Errorf("%v: at the vertex %d Meets tells %d, %d, not %d", task, vertex, got, e, band)
			}
		case verdict == 1:
			for range 10 {
				var x []value.Num
				for _, r := range task.Box {
					x = append(x, g.inside(span(t, string(r.Lo+" "+r.Hi))))
				}
				for _, b := range task.Mask {
					w := g.inside(span(t, string(b.Lo+" "+b.Hi)))
					if !isBetween(num.at(fracs(x)), den.at(fracs(x)), b, frac(value.Text(w))) {
						t.Errorf("%v is not met at %s for %s", task, value.Text(w), show(x))
					}
				}
			}
		}
	}
}
