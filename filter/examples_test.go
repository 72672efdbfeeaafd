package filter_test

import (
	"testing"

	"pentode/api"
	"pentode/filter"
	"pentode/value"
)

// The examples of the chapter, row by row.
func TestExamplesOfFamilies(t *testing.T) {
	p, e := filter.Bessel(2)
	isList(t, "Bessel of 2", p, e, "3 3 1", api.OK)
	p, e = filter.Bessel(3)
	isList(t, "Bessel of 3", p, e, "15 15 6 1", api.OK)
	p, e = filter.Binomial(3)
	isList(t, "Binomial of 3", p, e, "1 3 3 1", api.OK)
	p, e = filter.Bessel(21)
	isList(t, "Bessel of 21", p, e, "", api.ErrRange)
	p, e = filter.Denorm(nums(t, "3 3 1"), value.Int(2))
	isList(t, "Denorm", p, e, "3 3/2 1/4", api.OK)
	p, e = filter.High(nums(t, "3 3 1"))
	isList(t, "High", p, e, "1 3 3", api.OK)
	p, e = filter.Band(nums(t, "1 1"), value.Int(2), value.Int(9))
	isList(t, "Band", p, e, "9 2 1", api.OK)
}

func TestExamplesOfLadders(t *testing.T) {
	for _, c := range []struct {
		p, want string
		e       api.Errno
	}{{"15 15 6 1", "1/6 12/25 5/6", api.OK}, {"1 0 1", "", api.ErrForm}, {"1 1 -1", "-1 1", api.OK}} {
		q, e := filter.Fraction(nums(t, c.p))
		isList(t, "Fraction of "+c.p, q, e, c.want, c.e)
	}
	q, e := filter.Ladder(nums(t, "1 2 2 1"))
	isList(t, "Ladder of 1 2 2 1", q, e, "1/2 4/3 3/2", api.OK)
	none, e := filter.Ladder(nums(t, "-1 0 1"))
	isList(t, "Ladder of -1 0 1", none, e, "", filter.ErrHurwitz)
	n, e := filter.Net(q, value.Int(1), value.Int(1))
	isNet(t, "Net", n, e, 3, []api.Elem{
		{Kind: api.ElV, A: 1, B: 0, Val: "1"}, {Kind: api.ElL, A: 1, B: 2, Val: "3/2"}, {Kind: api.ElC, A: 2, B: 0, Val: "4/3"},
		{Kind: api.ElL, A: 2, B: 3, Val: "1/2"}, {Kind: api.ElR, A: 3, B: 0, Val: "1"},
	})
}

func TestExamplesOfDiscreteTime(t *testing.T) {
	q, e := filter.Bilinear(nums(t, "1 1"), 1, value.Int(2))
	isList(t, "Bilinear", q, e, "0 2", api.OK)
	p, e := filter.Back(q, 1, value.Int(2))
	isList(t, "Back", p, e, "2 2", api.OK)
	if inside, on, outside, e := filter.Schur(q); inside != 1 || on != 0 || outside != 0 || e != api.OK {
		t.Errorf("Schur = %d, %d, %d, %d", inside, on, outside, e)
	}
}

func TestExamplesOfMasks(t *testing.T) {
	p, e := filter.Square(nums(t, "1 1 1"))
	isList(t, "Square", p, e, "1 0 -1 0 1", api.OK)
	for poly, want := range map[string]bool{"1 -2 1": true, "-1 1": false} {
		if is, e := filter.Nonneg(nums(t, poly), span(t, "0 2")); is != want || e != api.OK {
			t.Errorf("Nonneg of %s = %t, %d", poly, is, e)
		}
	}
	one := nums(t, "1")
	for _, c := range []struct {
		mask string
		band int
		at   api.Val
	}{{"0 1 1/2 1", -1, "0"}, {"0 1 3/4 1", 0, "1"}} {
		if band, at, e := filter.Meets(one, nums(t, "1 1"), mask(c.mask)); band != c.band || value.Text(at) != c.at || e != api.OK {
			t.Errorf("Meets of %s = %d, %s, %d", c.mask, band, value.Text(at), e)
		}
	}
	task := api.FlTask{Num: terms("1 0 0"), Den: terms("1 0 0, 1 1 1"), Box: ranges("1/2 1"), Mask: mask("0 1 1/2 1")}
	if verdict, band, vertex, e := filter.Prove(task, 20); verdict != 1 || band != 0 || vertex != 0 || e != api.OK {
		t.Errorf("Prove = %d, %d, %d, %d", verdict, band, vertex, e)
	}
	task.Box = ranges("1/2 2")
	if verdict, band, vertex, e := filter.Prove(task, 20); verdict != -1 || band != 0 || vertex != 1 || e != api.OK {
		t.Errorf("Prove = %d, %d, %d, %d", verdict, band, vertex, e)
	}
}
