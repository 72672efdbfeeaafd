package probe_test

import (
	"slices"
	"testing"

	"pentode/api"
	"pentode/probe"
	"pentode/value"
)

// The examples of the chapter, row by row.
func TestExamplesOfMeters(t *testing.T) {
	for _, c := range []struct {
		meter   string
		reading api.Val
		want    string
	}{{"1/10 1/10 0", "2", "19/11 7/3"}, {"1/10 1/10 0", "-2", "-7/3 -19/11"}, {"0 0 1", "3", "5/2 7/2"}} {
		s, e := probe.Sense(meters(c.meter)[0], num(t, c.reading))
		if value.SpanText(s) != ranges(c.want)[0] || e != api.OK {
			t.Errorf("Sense of %s at %s = %v, %d", c.meter, c.reading, value.SpanText(s), e)
		}
	}
	for _, c := range []struct {
		meter   string
		x, want api.Val
	}{{"0 0 1/2", "7/4", "2"}, {"0 0 1/2", "-7/4", "-3/2"}, {"0 0 0", "1/3", "1/3"}} {
		r, e := probe.Reading(meters(c.meter)[0], num(t, c.x))
		if value.Text(r) != c.want || e != api.OK {
			t.Errorf("Reading of %s at %s = %s, %d", c.meter, c.x, value.Text(r), e)
		}
	}
}

func TestExamplesOfTasks(t *testing.T) {
	k := divider(t)
	if e := probe.Check(k); e != api.OK {
		t.Errorf("Check = %d", e)
	}
	if p, e := probe.Predict(k, 0); !slices.Equal(p, ranges("18/5 22/5 -30/7 -15/4")) || e != api.OK {
		t.Errorf("Predict = %v, %d", p, e)
	}
	for readings, want := range map[string][]int{"4 -4": {0}, "0 -6": {2}, "0 0": nil} {
		if l, e := probe.Candidates(k, words(readings)); !slices.Equal(l, want) || e != api.OK {
			t.Errorf("Candidates of %s = %v, %d", readings, l, e)
		}
	}
	for mask, want := range map[int]int{1: 2, 2: 3, 3: 3} {
		if told, all, e := probe.Pairs(k, mask); told != want || all != 3 || e != api.OK {
			t.Errorf("Pairs of %d = %d of %d, %d", mask, told, all, e)
		}
	}
	if mask, told, e := probe.Choose(k, 2); mask != 2 || told != 3 || e != api.OK {
		t.Errorf("Choose = %d, %d, %d", mask, told, e)
	}
	if r, e := probe.Fit(k, 1, ranges("1 9")[0], words("4 -4")); r != ranges("79/41 27/13")[0] || e != api.OK {
		t.Errorf("Fit = %v, %d", r, e)
	}
	if r, e := probe.Fit(k, 1, ranges("3 9")[0], words("4 -4")); r != (api.Range{}) || e != api.ErrNone {
		t.Errorf("Fit from 3 = %v, %d", r, e)
	}
}
