package probe_test

import (
	"math/big"
	"slices"
	"testing"

	"pentode/api"
	"pentode/probe"
	"pentode/value"
)

// valuesIn are those of Outs for numbers in the ranges of the task for a fault.
func (g *numbers) valuesIn(k api.PbTask, fault int) []*big.Rat {
	vals := map[int]*big.Rat{}
	s := sub(k, fault, 0)
	for i, x := range g.inside(s) {
		vals[s.Elems[i]] = fracOf(x)
	}
	_, y := solved(equations(k.Net, vals))
	var list []*big.Rat
	for _, out := range k.Outs {
		list = append(list, y[out])
	}
	return list
}

// shown are what meters show for values.
func shown(k api.PbTask, values []*big.Rat) []api.Val {
	var list []api.Val
	for i, y := range values {
		x, _ := value.Parse(textOf(y))
		r, _ := probe.Reading(k.Meters[i], x)
		list = append(list, value.Text(r))
	}
	return list
}

// T7: the true fault is a candidate.
func TestP10_8Theorem(t *testing.T) {
	g := newNumbers()
	for range 250 {
		k := g.regular(3, 7, 4, 4, 4)
		for fault := range 1 + len(k.Faults) {
			y := g.valuesIn(k, fault)
			for _, readings := range [][]api.Val{g.possible(k.Meters, y), shown(k, y)} {
				if l, e := probe.Candidates(k, readings); !slices.Contains(l, fault) || e != api.OK {
					t.Fatalf("%v: Candidates of %v = %v, %d, without %d", k, readings, l, e, fault)
				}
			}
		}
	}
}

// part is the task with one of its faults alone, and with a set of its Outs.
func part(k api.PbTask, fault, set int) api.PbTask {
	p := k
	p.Outs, p.Meters, p.Faults = nil, nil, k.Faults[fault-1:fault]
	for i, out := range k.Outs {
		if set>>i&1 == 1 {
			p.Outs, p.Meters = append(p.Outs, out), append(p.Meters, k.Meters[i])
		}
	}
	return p
}

// If a set tells two faults apart, no readings have both as candidates: not even those at the ends of what is possible for both.
func TestP10_9Resolution(t *testing.T) {
	g := newNumbers()
	apart := 0
	for range 500 {
		k := g.regular(3, 6, 2, 3, 3)
		if len(k.Faults) == 0 {
			continue
		}
		set := 1 + g.below(1<<len(k.Outs)-1)
		two := part(k, 1+g.below(len(k.Faults)), set)
		told, all, e := probe.Pairs(two, 1<<len(two.Outs)-1)
		if all != 1 || e != api.OK {
			t.Fatalf("%v: Pairs = %d of %d, %d", two, told, all, e)
		}
		d, _ := dictionary(two)
		for range 6 {
			readings := g.readings(two, d)
			if l, _ := probe.Candidates(two, readings); told == 1 && len(l) > 1 {
				t.Fatalf("%v: Candidates of %v = %v", two, readings, l)
			}
		}
		apart += told
	}
	if apart < 30 {
		t.Errorf("%d pairs are told apart", apart)
	}
}

// More of Outs tell at least as many pairs apart, and no set tells more than the one that is chosen.
func TestP10_9Sets(t *testing.T) {
	g := newNumbers()
	for range 60 {
		k := g.regular(4, 6, 3, 5, 6)
		var told []int
		for set := range 1 << len(k.Outs) {
			n, _, e := probe.Pairs(k, set)
			if e != api.OK {
				t.Fatalf("%v: Pairs = %d", k, e)
			}
			told = append(told, n)
			for i := range k.Outs {
				if less := set &^ (1 << i); told[less] > n {
					t.Fatalf("%v: %d pairs by %b, but %d by %b", k, n, set, told[less], less)
				}
			}
		}
		mask, n, e := probe.Choose(k, len(k.Outs))
		if told[mask] != n || slices.Max(told) != n || e != api.OK {
			t.Fatalf("%v: Choose = %d, %d, %d, not %d", k, mask, n, e, slices.Max(told))
		}
	}
}

// coarser is a meter that is less exact.
func (g *numbers) coarser(m api.PbMeter) api.PbMeter {
	more := plus(frac(m.Abs), big.NewRat(int64(g.below(3)), 8))
	rel := plus(frac(m.Rel), times(big.NewRat(int64(g.below(4)), 4), minus(whole(1), frac(m.Rel))))
	if rel.Cmp(whole(1)) == 0 {
		rel = frac(m.Rel)
	}
	step := plus(frac(m.Step), big.NewRat(int64(g.below(3)), 8))
	return api.PbMeter{Abs: textOf(more), Rel: textOf(rel), Step: textOf(step)}
}

func TestP10_10Fits(t *testing.T) {
	g := newNumbers()
	for range 400 {
		f := g.fitting()
		for _, readings := range [][]api.Val{g.possible(f.task.Meters, f.values(f.x)), shown(f.task, f.values(f.x))} {
			r, e := probe.Fit(f.task, f.elem, f.r, readings)
			if e != api.OK || !pairOf(r).has(f.x) {
				t.Fatalf("%v: Fit of %v = %v, %d, without %v", f, readings, r, e, f.x)
			}
			other := f.task
			other.Meters = nil
			for _, m := range f.task.Meters {
				other.Meters = append(other.Meters, g.coarser(m))
			}
			more, e := probe.Fit(other, f.elem, f.r, readings)
			if e != api.OK || !pairOf(more).has(frac(r.Lo)) || !pairOf(more).has(frac(r.Hi)) {
				t.Fatalf("%v: Fit of %v = %v, but %v, %d with %v", f, readings, r, more, e, other.Meters)
			}
		}
	}
}

func TestP10_10Candidates(t *testing.T) {
	g := newNumbers()
	for range 200 {
		k := g.regular(3, 6, 3, 4, 5)
		d, _ := dictionary(k)
		readings := g.readings(k, d)
		l, e := probe.Candidates(k, readings)
		other := k
		other.Meters = nil
		for _, m := range k.Meters {
			other.Meters = append(other.Meters, g.coarser(m))
		}
		more, f := probe.Candidates(other, readings)
		for _, fault := range l {
			if !slices.Contains(more, fault) || e != api.OK || f != api.OK {
				t.Fatalf("%v: Candidates of %v = %v, but %v with %v", k, readings, l, more, other.Meters)
			}
		}
	}
}
