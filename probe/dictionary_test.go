package probe_test

import (
	"fmt"
	"math/big"
	"slices"
	"strings"
	"testing"

	"pentode/api"
	"pentode/probe"
	"pentode/value"
)

func TestP10_3Predictions(t *testing.T) {
	g := newNumbers()
	regular, singular, more := 0, 0, 0
	for range 500 {
		k := g.task(4, 7, 4, 6, 4)
		want, ok := dictionary(k)
		d, e := probe.Dictionary(k)
		if ok != (e == api.OK) || !ok && (len(d) > 0 || e != api.ErrSingular) || ok && len(d) != len(want) {
			t.Fatalf("%v: Dictionary = %v, %d", k, d, e)
		}
		for fault := range 1 + len(k.Faults) {
			p, e := probe.Predict(k, fault)
			list, isRegular := predicted(k, fault)
			switch {
			case !isRegular && (len(p) > 0 || e != api.ErrSingular):
				t.Fatalf("%v: Predict %d = %v, %d", k, fault, p, e)
			case isRegular && (!slices.Equal(p, textsOf(list)) || e != api.OK):
				t.Fatalf("%v: Predict %d = %v, %d, not %v", k, fault, p, e, textsOf(list))
			case ok && !slices.Equal(d[fault], p):
				t.Fatalf("%v: Dictionary has %v for %d, not %v", k, d[fault], fault, p)
			case isRegular && !ok:
				more++
			}
		}
		if ok {
			regular++
		} else {
			singular++
		}
	}
	if regular < 150 || singular < 50 || more < 20 {
		t.Errorf("%d tasks have a dictionary, %d have none, of which %d predictions", regular, singular, more)
	}
}

// The range of a fault takes the place of another one of its element, or is one more.
func TestP10_3Ranges(t *testing.T) {
	k := divider(t)
	k.Outs, k.Meters = []int{1}, k.Meters[:1]
	k.Ranges = ranges("2 2 1 1")
	k.Faults = slices.Concat(faults(1, "1 3"), faults(2, "1/2 2"), faults(0, "-6 9"), faults(1, "1 3"))
	want := []string{"4 4", "3 6", "12/5 6", "-2 3", "3 6"}
	d, e := probe.Dictionary(k)
	if len(d) != len(want) || e != api.OK {
		t.Fatalf("Dictionary = %v, %d", d, e)
	}
	for i, p := range want {
		if !slices.Equal(d[i], ranges(p)) {
			t.Errorf("Dictionary has %v for %d, not %s", d[i], i, p)
		}
	}
	k.Elems, k.Ranges = nil, nil // then the others are as they are in the net
	if other, e := probe.Dictionary(k); fmt.Sprint(other) != fmt.Sprint(d) || e != api.OK {
		t.Errorf("Dictionary = %v, %d", other, e)
	}
	for _, fault := range []int{-1, 5} {
		if p, e := probe.Predict(k, fault); p != nil || e != api.ErrRange {
			t.Errorf("Predict %d = %v, %d", fault, p, e)
		}
	}
	k.Faults = nil
	if d, e := probe.Dictionary(k); len(d) != 1 || !slices.Equal(d[0], ranges("4 4")) || e != api.OK {
		t.Errorf("Dictionary = %v, %d", d, e)
	}
}

// readings are some for which a fault may be a candidate: near the ends of predictions.
func (g *numbers) readings(k api.PbTask, d [][]pair) []api.Val {
	p := d[g.below(len(d))]
	var list []api.Val
	for i, m := range k.Meters {
		s := readingsOf(m, p[i])
		x := []*big.Rat{s.lo, s.hi, s.mid(), p[i].lo, p[i].hi, fracOf(g.num())}[g.below(6)]
		if g.below(6) == 0 {
			x = plus(x, big.NewRat(int64(g.below(3)-1), 1000000))
		}
		list = append(list, textOf(x))
	}
	return list
}

func TestP10_4Candidates(t *testing.T) {
	g := newNumbers()
	none, one, more := 0, 0, 0
	for range 250 {
		k := g.regular(3, 6, 3, 4, 5)
		d, _ := dictionary(k)
		for range 8 {
			readings := g.readings(k, d)
			want := candidates(k, d, readings)
			if l, e := probe.Candidates(k, readings); !slices.Equal(l, want) || e != api.OK {
				t.Fatalf("%v: Candidates of %v = %v, %d, not %v", k, readings, l, e, want)
			}
			switch len(want) {
			case 0:
				none++
			case 1:
				one++
			default:
				more++
			}
		}
	}
	if none < 200 || one < 200 || more < 200 {
		t.Errorf("%d readings have no candidate, %d have one, %d have more", none, one, more)
	}
}

func TestP10_4Edges(t *testing.T) {
	// 5 without a fault; the reading 4 is possible for 3 to 5, and 16/3 for 4 to 20/3.
	k := source(t, "1/2 0 1", "3 3 1 2 5 7 5000001/1000000 6 -3 29/10 -3 3")
	for readings, want := range map[string][]int{
		"4": {0, 1, 3, 6}, "5": {0, 3, 4}, "39/10": {1, 5, 6}, "-4": {5, 6}, "-5": nil, "-4000001/1000000": nil, "8": {3}, "7": {3, 4}, "9": nil,
	} {
		if l, e := probe.Candidates(k, words(readings)); !slices.Equal(l, want) || e != api.OK {
			t.Errorf("Candidates of %s = %v, %d, not %v", readings, l, e, want)
		}
	}
	k = divider(t) // each of both readings has to fit
	for readings, want := range map[string][]int{"4 0": nil, "0 -4": nil, "0 -6": {2}, "4 -4": {0}, "1/5 -1/10": {1}, "1/5 -1/100": nil} {
		if l, e := probe.Candidates(k, words(readings)); !slices.Equal(l, want) || e != api.OK {
			t.Errorf("Candidates of %s = %v, %d, not %v", readings, l, e, want)
		}
	}
	for readings, want := range map[string]api.Errno{
		"": api.ErrArg, "4": api.ErrArg, "x x x": api.ErrArg, "4 2/4": api.ErrForm, "x " + string(digits(1001)): api.ErrForm,
		string(digits(1001)) + " x": api.ErrLong, string(digits(1000)) + " 0": api.OK,
	} {
		if l, e := probe.Candidates(k, words(readings)); len(l) > 0 || e != want {
			t.Errorf("Candidates of %.20s = %v, %d", readings, l, e)
		}
	}
}

// digitsOf are so many digits, the first and the last one not 0.
func (g *numbers) digitsOf(n int) api.Val {
	var text strings.Builder
	text.WriteByte('7')
	for range n - 2 {
		text.WriteByte(byte('0' + g.below(10)))
	}
	text.WriteByte('3')
	return api.Val(text.String())
}

// fraction is one of two rows of so many digits.
func (g *numbers) fraction(n int) value.Num {
	for {
		if x, e := value.Parse(g.digitsOf(n) + "/" + g.digitsOf(n)); e == api.OK {
			return x
		}
	}
}

// long is a task whose predictions are longer than Vals.
func (g *numbers) long(t testing.TB) api.PbTask {
	t.Helper()
	k := api.PbTask{
		Net:    read(t, "v v 1 0 1; r r1 1 2 1; r r2 2 3 1; r r3 3 4 1; r r4 2 0 1; r r5 3 0 1; r r6 4 0 1"),
		Outs:   []int{3, 0},
		Meters: meters("0 0 0 0 0 0"),
	}
	span := func() api.Range {
		return value.SpanText(value.SpanJoin(value.Point(g.fraction(200)), value.Point(g.fraction(200))))
	}
	for elem := 1; elem <= 6; elem++ {
		k.Elems, k.Ranges = append(k.Elems, elem), append(k.Ranges, span())
		k.Faults = append(k.Faults, api.PbFault{Elem: elem, Range: span()})
	}
	// This one has no value in common with the others.
	k.Faults = append(k.Faults, api.PbFault{Elem: 6, Range: ranges("1000000 1000000")[0]})
	return k
}

func TestP10_4Long(t *testing.T) {
	g := newNumbers()
	k := g.long(t)
	want, _ := dictionary(k)
	d, e := probe.Dictionary(k)
	if e != api.OK || len(d[0][0].Lo) <= 2*api.MaxDigits || len(d[0][0].Hi) <= 2*api.MaxDigits {
		t.Fatalf("Dictionary = %d, and a text has %d bytes", e, len(d[0][0].Lo))
	}
	for i, p := range want {
		if !slices.Equal(d[i], textsOf(p)) {
			t.Errorf("Dictionary has %.60v for %d", d[i], i)
		}
	}
	for _, first := range []string{"1/3", "1/2", "9/10", "999/1000", "999999/1000000", "1/9", "0"} {
		readings := words(first + " 1")
		if l, e := probe.Candidates(k, readings); !slices.Equal(l, candidates(k, want, readings)) || e != api.OK {
			t.Errorf("Candidates of %s = %v, %d, not %v", first, l, e, candidates(k, want, readings))
		}
	}
	for mask := range 4 {
		count, all := told(k, want, mask)
		if n, m, e := probe.Pairs(k, mask); n != count || m != all || e != api.OK || (n > 0) != (mask%2 == 1) {
			t.Errorf("Pairs of %d = %d of %d, %d, not %d", mask, n, m, e, count)
		}
	}
}

// Predictions of any length are as exact as others.
func TestP10_4Digits(t *testing.T) {
	g := newNumbers()
	for _, n := range []int{3, 398, 399, 400, 401, 797, 798, 799, 999, 1000} {
		for _, v := range []api.Val{g.digitsOf(n), "-" + g.digitsOf(n), digits(n), "-" + digits(n), value.Text(g.fraction(n)), "-1/" + digits(n)} {
			k := source(t, "0 0 0", "1/2 1/2")
			k.Net.Elems[0].Val = v
			if l, e := probe.Candidates(k, []api.Val{v}); !slices.Equal(l, []int{0}) || e != api.OK {
				t.Errorf("Candidates of %.40s = %v, %d", v, l, e)
			}
			k.Meters = []api.PbMeter{{Abs: "1/" + digits(1000), Rel: "0", Step: "0"}}
			if told, all, e := probe.Pairs(k, 1); told != 1 || all != 1 || e != api.OK {
				t.Errorf("Pairs with %.40s = %d of %d, %d", v, told, all, e)
			}
		}
	}
}

func TestP10_5Pairs(t *testing.T) {
	g := newNumbers()
	some := 0
	for range 200 {
		k := g.regular(3, 6, 2, 5, 6)
		d, _ := dictionary(k)
		for mask := range 1 << len(k.Outs) {
			count, all := told(k, d, mask)
			if n, m, e := probe.Pairs(k, mask); n != count || m != all || e != api.OK {
				t.Fatalf("%v: Pairs of %d = %d of %d, %d, not %d of %d", k, mask, n, m, e, count, all)
			}
			if count > 0 && count < all {
				some++
			}
		}
		for most := 1; most <= len(k.Outs); most++ {
			mask, count := chosen(k, d, most)
			if set, n, e := probe.Choose(k, most); set != mask || n != count || e != api.OK {
				t.Fatalf("%v: Choose %d = %d, %d, %d, not %d, %d", k, most, set, n, e, mask, count)
			}
		}
	}
	if some < 120 {
		t.Errorf("%d sets tell some pairs apart", some)
	}
}

func TestP10_5Edges(t *testing.T) {
	// Readings that touch do not tell faults apart: 5 has 4 to 6.
	for other, want := range map[string]int{"7 9": 0, "7000001/1000000 9": 1, "1 3": 0, "1 2999999/1000000": 1, "5 5": 0, "0 10": 0, "-8 -7": 1} {
		k := source(t, "1/2 0 1", other)
		if told, all, e := probe.Pairs(k, 1); told != want || all != 1 || e != api.OK {
			t.Errorf("Pairs with %s = %d of %d, %d", other, told, all, e)
		}
	}
	// Three sources: the first one is at fault, or the second one, or the third one, or two faults are the same.
	k := api.PbTask{
		Net:    read(t, "v a 1 0 1; v b 2 0 1; v c 3 0 1; v d 4 0 1; r r 4 0 1"),
		Outs:   []int{3, 2, 1, 0},
		Meters: meters("0 0 0 0 0 0 0 0 0 0 0 0"),
		Faults: slices.Concat(faults(0, "2 2"), faults(1, "2 2"), faults(2, "2 2"), faults(0, "2 2")),
	}
	// Each of the sources b and c tells one fault from four others, a two faults from three others, d nothing.
	for mask, want := range map[int]int{0: 0, 1: 0, 2: 4, 4: 4, 8: 6, 9: 6, 6: 7, 10: 8, 12: 8, 14: 9, 15: 9, 3: 4} {
		if told, all, e := probe.Pairs(k, mask); told != want || all != 10 || e != api.OK {
			t.Errorf("Pairs of %d = %d of %d, %d", mask, told, all, e)
		}
	}
	for most, want := range map[int][2]int{1: {8, 6}, 2: {10, 8}, 3: {14, 9}, 4: {14, 9}} {
		if mask, told, e := probe.Choose(k, most); [...]int{mask, told} != want || e != api.OK {
			t.Errorf("Choose %d = %d, %d, %d", most, mask, told, e)
		}
	}
	// Nothing is told apart: then the empty set is chosen. Of sets with as many it is the least number, of more the fewest.
	k.Faults = faults(3, "1 1 1 1")
	if mask, told, e := probe.Choose(k, 4); mask != 0 || told != 0 || e != api.OK {
		t.Errorf("Choose = %d, %d, %d", mask, told, e)
	}
	k.Faults, k.Outs = faults(3, "2 2 3 3"), []int{0, 7, 3, 1} // voltage and current tell the same
	if mask, told, e := probe.Choose(k, 3); mask != 2 || told != 3 || e != api.OK {
		t.Errorf("Choose = %d, %d, %d", mask, told, e)
	}
	k.Faults = nil
	if told, all, e := probe.Pairs(k, 15); told != 0 || all != 0 || e != api.OK {
		t.Errorf("Pairs without faults = %d of %d, %d", told, all, e)
	}
	if mask, told, e := probe.Choose(k, 4); mask != 0 || told != 0 || e != api.OK {
		t.Errorf("Choose without faults = %d, %d, %d", mask, told, e)
	}
	for _, mask := range []int{-1, 16} {
		if told, all, e := probe.Pairs(k, mask); told != 0 || all != 0 || e != api.ErrRange {
			t.Errorf("Pairs of %d = %d of %d, %d", mask, told, all, e)
		}
	}
	for _, most := range []int{-1, 0, 5} {
		if mask, told, e := probe.Choose(k, most); mask != 0 || told != 0 || e != api.ErrRange {
			t.Errorf("Choose %d = %d, %d, %d", most, mask, told, e)
		}
	}
}
