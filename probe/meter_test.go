package probe_test

import (
	"math/big"
	"testing"

	"pentode/api"
	"pentode/probe"
	"pentode/value"
)

// anyMeter is a valid meter with numbers of all sizes.
func (g *numbers) anyMeter() api.PbMeter {
	rel, _ := value.Ratio(int64(g.below(20)), 20)
	m := api.PbMeter{Abs: value.Text(g.above()), Rel: value.Text(rel), Step: value.Text(g.above())}
	if g.below(3) == 0 {
		m.Abs = "0"
	}
	if g.below(3) == 0 {
		m.Step = "0"
	}
	return m
}

func TestP10_1Sense(t *testing.T) {
	g := newNumbers()
	for range 3000 {
		m, r := g.anyMeter(), g.num()
		s, e := probe.Sense(m, r)
		if want := spanOf(m, fracOf(r)); value.SpanText(s) != want.text() || value.Cmp(s.Lo, s.Hi) > 0 || e != api.OK {
			t.Fatalf("Sense of %v at %s = %v, %d, not %v", m, value.Text(r), value.SpanText(s), e, want.text())
		}
	}
	for _, c := range []struct{ meter, want string }{ // at 0, and where an end is 0
		{"1 1/2 0", "-2 2"}, {"0 1/2 0", "0 0"}, {"0 0 0", "0 0"}, {"0 0 3", "-3/2 3/2"}, {"0 99/100 2", "-100 100"},
	} {
		if s, e := probe.Sense(meters(c.meter)[0], value.Num{}); value.SpanText(s) != ranges(c.want)[0] || e != api.OK {
			t.Errorf("Sense of %s at 0 = %v, %d", c.meter, value.SpanText(s), e)
		}
	}
	for r, want := range map[int64]string{1: "0 4", -1: "-4 0", 2: "2/3 6", -2: "-6 -2/3"} {
		if s, e := probe.Sense(meters("1 1/2 0")[0], value.Int(r)); value.SpanText(s) != ranges(want)[0] || e != api.OK {
			t.Errorf("Sense at %d = %v, %d", r, value.SpanText(s), e)
		}
	}
}

// The multiple of Step that is shown is at most half of a Step away, and of two such it is the greater one.
func TestP10_1Reading(t *testing.T) {
	g := newNumbers()
	ties := 0
	for range 3000 {
		m, x := g.anyMeter(), fracOf(g.num())
		r, e := probe.Reading(m, num(t, textOf(x)))
		shown, step := fracOf(r), frac(m.Step)
		if step.Sign() == 0 {
			if shown.Cmp(x) != 0 || e != api.OK {
				t.Fatalf("Reading of %v at %v = %v, %d", m, x, shown, e)
			}
			continue
		}
		rise, half := minus(shown, x), over(step, whole(2))
		if !over(shown, step).IsInt() || rise.Cmp(half) > 0 || rise.Cmp(neg(half)) <= 0 || e != api.OK {
			t.Fatalf("Reading of %v at %v = %v, %d", m, x, shown, e)
		}
		if rise.Cmp(half) == 0 {
			ties++
		}
	}
	if ties < 20 {
		t.Errorf("%d values are in the middle", ties)
	}
	for x, want := range map[api.Val]api.Val{"3/2": "3", "-3/2": "0", "0": "0", "4": "3", "-4": "-3", "149/100": "0", "-151/100": "-3"} {
		if r, e := probe.Reading(meters("7 1/2 3")[0], num(t, x)); value.Text(r) != want || e != api.OK {
			t.Errorf("Reading at %s = %s, %d", x, value.Text(r), e)
		}
	}
}

// Numbers may be longer than Vals are.
func TestP10_1Long(t *testing.T) {
	long := value.Mul(num(t, digits(1000)), num(t, "7"+digits(999)+"/3"))
	r, e := probe.Reading(meters("0 0 0")[0], long)
	if value.Cmp(r, long) != 0 || e != api.OK {
		t.Errorf("Reading = %.40s, %d", value.Text(r), e)
	}
	m := api.PbMeter{Abs: digits(1000), Rel: "1/" + digits(1000), Step: "1/" + digits(1000)}
	s, e := probe.Sense(m, long)
	if want := spanOf(m, fracOf(long)); value.SpanText(s) != want.text() || e != api.OK {
		t.Errorf("Sense = %.40v, %d", s, e)
	}
	r, e = probe.Reading(m, long)
	if rise := value.Abs(value.Sub(r, long)); value.Cmp(rise, num(t, "1/"+digits(1000))) > 0 || e != api.OK {
		t.Errorf("Reading = %.40s, %d", value.Text(r), e)
	}
}

// wrongMeters are meters that are not valid, with their errors.
func wrongMeters() map[api.PbMeter]api.Errno {
	long := digits(1001)
	return map[api.PbMeter]api.Errno{
		{}:                                       api.ErrForm,
		{Abs: "x", Rel: long, Step: long}:        api.ErrForm,
		{Abs: long, Rel: "x", Step: "x"}:         api.ErrLong,
		{Abs: "1", Rel: "2/4", Step: long}:       api.ErrForm,
		{Abs: "1", Rel: long, Step: "x"}:         api.ErrLong,
		{Abs: "1", Rel: "0", Step: "+1"}:         api.ErrForm,
		{Abs: "1", Rel: "0", Step: long}:         api.ErrLong,
		{Abs: "-1", Rel: "-1", Step: "x"}:        api.ErrForm,
		{Abs: "-1", Rel: "1", Step: "1/" + long}: api.ErrLong,
		{Abs: "-1", Rel: "0", Step: "0"}:         api.ErrRange,
		{Abs: "0", Rel: "-1/9", Step: "0"}:       api.ErrRange,
		{Abs: "0", Rel: "1", Step: "0"}:          api.ErrRange,
		{Abs: "0", Rel: "10/9", Step: "0"}:       api.ErrRange,
		{Abs: "0", Rel: "0", Step: "-1/9"}:       api.ErrRange,
	}
}

func TestP10_1Errors(t *testing.T) {
	for m, want := range wrongMeters() {
		if s, e := probe.Sense(m, value.Int(7)); value.SpanText(s) != ranges("0 0")[0] || e != want {
			t.Errorf("Sense of %.60v = %v, %d", m, value.SpanText(s), e)
		}
		if r, e := probe.Reading(m, value.Int(7)); value.Sign(r) != 0 || e != want {
			t.Errorf("Reading of %.60v = %s, %d", m, value.Text(r), e)
		}
	}
	for _, m := range []api.PbMeter{
		{Abs: digits(1000), Rel: "0", Step: digits(1000)},
		{Abs: "0", Rel: "999999999/1000000000", Step: "0"},
		{Abs: "0", Rel: "1/" + digits(1000), Step: "1/" + digits(1000)},
	} {
		_, e := probe.Sense(m, value.Int(7))
		_, f := probe.Reading(m, value.Int(7))
		if e != api.OK || f != api.OK {
			t.Errorf("Sense and Reading of %.60v: %d, %d", m, e, f)
		}
	}
}

// steps are from below 0 to above 0.
func steps(from, to, parts int64) []*big.Rat {
	var list []*big.Rat
	for n := from * parts; n <= to*parts; n++ {
		list = append(list, big.NewRat(n, parts))
	}
	return list
}

// A value is in the span of each reading that is possible for it, and in no other one; what is shown is possible.
func TestP10_7Meters(t *testing.T) {
	g := newNumbers()
	for range 25 {
		m := g.anyMeter()
		for _, r := range steps(-8, 8, 2) {
			s, _ := probe.Sense(m, num(t, textOf(r)))
			for _, x := range steps(-12, 12, 4) {
				if value.SpanHas(s, num(t, textOf(x))) != isPossible(m, r, x) {
					t.Fatalf("%v: %v is a reading for %v, but Sense = %v", m, r, x, value.SpanText(s))
				}
			}
			little := big.NewRat(1, 1000000000)
			lo, hi := fracOf(s.Lo), fracOf(s.Hi)
			if !isPossible(m, r, lo) || !isPossible(m, r, hi) || isPossible(m, r, minus(lo, little)) || isPossible(m, r, plus(hi, little)) {
				t.Fatalf("%v: Sense of %v = %v", m, r, value.SpanText(s))
			}
		}
		for _, x := range steps(-12, 12, 8) {
			if r, _ := probe.Reading(m, num(t, textOf(x))); !isPossible(m, fracOf(r), x) {
				t.Fatalf("%v shows %s for %v", m, value.Text(r), x)
			}
		}
	}
}

// The readings of a range are those that are possible for one of its values: so two faults are told apart exactly if no reading is
// possible for values of both. If one is, the greatest one for the lower range, or the least value of the upper one, is such a reading.
func TestP10_7Readings(t *testing.T) {
	g := newNumbers()
	apart, others := 0, 0
	for range 2000 {
		k := source(t, "0 0 0", "")
		k.Meters[0] = g.anyMeter()
		a, b := g.far(k.Net.Elems[0]), g.far(k.Net.Elems[0])
		k.Elems, k.Ranges = []int{0}, []api.Range{a}
		k.Faults = []api.PbFault{{Elem: 0, Range: b}}
		p, q := pairOf(a), pairOf(b)
		if p.lo.Cmp(q.lo) > 0 {
			p, q = q, p
		}
		m, want := k.Meters[0], 1
		greatest := plus(p.hi, away(m, p.hi))
		if p.meets(q) || greatest.Cmp(q.lo) >= 0 || isPossible(m, greatest, q.lo) {
			want = 0
		}
		if told, all, e := probe.Pairs(k, 1); told != want || all != 1 || e != api.OK {
			t.Fatalf("%v: Pairs of %v and %v = %d of %d, %d", m, a, b, told, all, e)
		}
		apart, others = apart+want, others+1-want
	}
	if apart < 200 || others < 200 {
		t.Errorf("%d pairs are told apart, %d others", apart, others)
	}
}
