package points_test

import (
	"fmt"
	"slices"
	"testing"

	"pentode/api"
	"pentode/points"
	"pentode/value"
)

// kindsOf are the kinds of the items of a proof.
func kindsOf(q api.PtProof) []int {
	var kinds []int
	for _, it := range q.Items {
		kinds = append(kinds, it.Kind)
	}
	return kinds
}

// lively is a net with operating points: devices, resistors and sources, all of whose nodes have a resistor to the ground.
func (g *numbers) lively(nodes int) api.Net {
	n := g.small(nodes, 2+g.below(5), 4, api.ElR, api.ElI, api.ElG, api.ElD, api.ElD, api.ElM, api.ElV, api.ElE, api.ElF, api.ElH, api.ElL)
	for node := 1; node <= nodes; node++ {
		n.Elems = append(n.Elems, api.Elem{Kind: api.ElR, A: node, Val: g.above()})
	}
	return n
}

// wide is a box with its ends in order, none of whose spans is a point.
func (g *numbers) wide(n int) []api.Range {
	box := g.ranges(n)
	for i, r := range box {
		if r.Lo == r.Hi {
			box[i] = api.Range{Lo: "-2", Hi: "3"}
		}
	}
	return box
}

// P4.5 and P4.10.
func TestP4_5Definitions(t *testing.T) {
	g := newNumbers()
	kinds, errors := map[int]int{}, map[api.Errno]int{}
	for i := range 500 {
		n := g.lively(1 + g.below(3))
		size, _ := points.Size(n)
		box := g.wide(size)
		switch i % 5 {
		case 0:
			box = g.ranges(size)
		case 1:
			n = g.small(1, 3, 2, api.ElR, api.ElI, api.ElD) // with a point at an end of the box, if there is one
			size = 1
			box = ranges("-8 0")
			if l, e := points.Exact(n); e == api.OK && len(l) > 0 && value.Cmp(l[0][0], value.Int(-8)) > 0 {
				box[0].Hi = value.Text(l[0][0])
			}
		}
		plan := api.PtPlan{Bits: []int{4, 5, 8, 12, 40, 200}[g.below(6)], Items: 1 + g.below(40)}
		want, wantE := derive(n, box, plan)
		q, e := points.Derive(n, box, plan)
		if e != wantE || fmt.Sprint(q) != fmt.Sprint(want) {
			t.Fatalf("%v over %s: Derive with %v = %.2000v, %d, not %.2000v, %d", n, showRanges(box), plan, q, e, want, wantE)
		}
		errors[e]++
		if e != api.OK {
			continue
		}
		for _, kind := range kindsOf(q) {
			kinds[kind]++
		}
		if _, e := agree(t, n, box, q); e != api.OK {
			t.Fatalf("%v over %s: Check of what is derived = %d", n, showRanges(box), e)
		}
	}
	if len(kinds) != 5 || errors[api.OK] < 200 || errors[points.ErrMore] < 20 || errors[points.ErrEdge] < 10 {
		t.Errorf("kinds %v, errors %v", kinds, errors)
	}
}

// What is changed somewhere in a proof is judged as the definitions say.
func TestP4_4ChangedProofs(t *testing.T) {
	g := newNumbers()
	errors := map[api.Errno]int{}
	for range 60 {
		n := g.lively(1 + g.below(2))
		size, _ := points.Size(n)
		box := g.wide(size)
		q, e := points.Derive(n, box, api.PtPlan{Bits: 8, Items: 30})
		if e != api.OK {
			continue
		}
		for range 40 {
			w := copiedProof(q)
			g.spoil(&w)
			_, e := agree(t, n, box, w)
			errors[e]++
		}
	}
	for _, e := range []api.Errno{api.OK, points.ErrTree, points.ErrItem, points.ErrFault} {
		if errors[e] < 50 {
			t.Errorf("errors %v", errors)
		}
	}
}

// spoil changes one thing of a proof, which has items.
func (g *numbers) spoil(q *api.PtProof) {
	at := g.below(len(q.Items))
	it := &q.Items[at]
	pick := func(list []api.Val) {
		if len(list) > 0 {
			x, _ := value.Parse(list[g.below(len(list))])
			list[g.below(len(list))] = value.Text(value.Add(x, value.Mul(g.num(), value.Down(g.num(), 1))))
		}
	}
	switch g.below(12) {
	case 0:
		q.Items = slices.Delete(q.Items, at, at+1)
	case 1:
		q.Items = slices.Insert(q.Items, at, q.Items[g.below(len(q.Items))])
	case 2:
		it.Kind = 1 + g.below(5)
	case 3:
		it.Kind = map[int]int{api.PtNone: api.PtOne, api.PtOne: api.PtNone}[it.Kind]
	case 4, 5:
		pick(it.Mid)
	case 6, 7:
		for _, row := range it.Inv {
			pick(row)
		}
	case 8:
		it.Eq = g.below(3)
	case 9:
		it.Var = g.below(3)
	case 10:
		if it.At != "" {
			it.At = g.val()
		}
	case 11:
		for i := range it.Box {
			it.Box[i] = value.SpanText(value.Span{Lo: g.num(), Hi: g.num()})
		}
	}
}

func TestP4_5Steps(t *testing.T) {
	for _, c := range []struct {
		curve, box string
		bits       int
		want       api.PtProof
	}{
		// the first equation that has no 0 decides, before anything else
		{"1 1", "0 1", 4, proofOf(api.PtItem{Kind: api.PtEmpty})},
		{"-1 1", "0 3", 4, proofOf(by(api.PtOne, "3/2", "1"))},
		// the middle 67/32 has 7 bits; rounded to 4 bits it is 2, which is not in the span
		{"-67/32 1", "33/16 17/8", 4, proofOf(by(api.PtOne, "67/32", "1"))},
		{"-67/32 1", "2 35/16", 4, proofOf(by(api.PtOne, "2", "1"))},
		// the inverse 1/3 is rounded down to 5/16
		{"-3 3", "0 3", 4, proofOf(by(api.PtOne, "3/2", "5/16"))},
		{"3 -3", "0 3", 4, proofOf(by(api.PtOne, "3/2", "-11/32"))},
	} {
		q, e := points.Derive(device(t, c.curve), ranges(c.box), api.PtPlan{Bits: c.bits, Items: 9})
		if fmt.Sprint(q) != fmt.Sprint(c.want) || e != api.OK {
			t.Errorf("Derive of %s over %s = %v, %d", c.curve, c.box, q, e)
		}
	}
}

// The root of v v - 2 is found behind a split, where the slope 0 has no inverse.
func TestP4_5Split(t *testing.T) {
	n := device(t, "-2 0 1")
	q := derived(t, n, "-4 4", 8, 20)
	if q.Items[0].Kind != api.PtSplit || q.Items[0].Var != 0 || q.Items[0].At != "-1/8" { // -4 and 31/64 of 8
		t.Errorf("Derive begins with %v", q.Items[0])
	}
	if ones, e := agree(t, n, ranges("-4 4"), q); ones != 2 || e != api.OK {
		t.Errorf("Check = %d, %d", ones, e)
	}
	// 31/64 between 33/16 and 17/8 is rounded to 4 bits, which is not above the lower end: so it is not rounded.
	w := device(t, "1 0 | 2 | 5 -2 | 17/8 | 3/4 0")
	q, _ = derive(w, ranges("33/16 17/8"), api.PtPlan{Bits: 4, Items: 400})
	if p := derived(t, w, "33/16 17/8", 4, 400); fmt.Sprint(p) != fmt.Sprint(q) {
		t.Errorf("Derive = %v", p)
	}
}

// In the slopes from 1 to 7 a box shrinks to exactly 3/4 of it, and not in those from 1 to 8.
func TestP4_5Shrink(t *testing.T) {
	shrink := by(api.PtShrink, "0", "1/4", "-2 4")
	if q := derived(t, device(t, "-4 1 | 0 | -4 7"), "-4 4", 8, 20); fmt.Sprint(q.Items[0]) != fmt.Sprint(shrink) {
		t.Errorf("Derive begins with %v", q.Items[0])
	}
	split := api.PtItem{Kind: api.PtSplit, At: "-1/8"}
	if q := derived(t, device(t, "-4 1 | 0 | -4 8"), "-4 4", 8, 20); fmt.Sprint(q.Items[0]) != fmt.Sprint(split) {
		t.Errorf("Derive begins with %v", q.Items[0])
	}
}

// The unknown that is split is the one whose width is the greatest part of what it was, the first one of several.
func TestP4_5Widest(t *testing.T) {
	n := read(t, "model k curve -2 0 1", "d d1 1 0 k", "d d2 2 0 k")
	box := ranges("-4 4 -64 64")
	q := derived(t, n, "-4 4 -64 64", 8, 400)
	for i, want := range []api.PtItem{{Kind: api.PtSplit, At: "-1/8"}, {Kind: api.PtSplit, Var: 1, At: "-2"}, {Kind: api.PtEmpty, Eq: 1}, {Kind: api.PtSplit, Var: 1, At: "239/8"}} {
		if fmt.Sprint(q.Items[i]) != fmt.Sprint(want) {
			t.Errorf("the item %d is %v", i, q.Items[i])
		}
	}
	if want, _ := derive(n, box, api.PtPlan{Bits: 8, Items: 400}); fmt.Sprint(q) != fmt.Sprint(want) {
		t.Errorf("Derive = %v", q)
	}
	if ones, e := agree(t, n, box, q); ones != 4 || e != api.OK {
		t.Errorf("Check = %d, %d", ones, e)
	}
}

func TestP4_5Errors(t *testing.T) {
	n := line(t)
	for _, c := range []struct {
		box         string
		bits, items int
		want        api.Errno
	}{
		{"0 3", 3, 5, api.ErrRange}, {"0 3", 4, 5, api.OK}, {"0 3", 200, 5, api.OK}, {"0 3", 201, 5, api.ErrRange}, {"0 3", -1, 5, api.ErrRange},
		{"0 3", 8, 0, api.ErrRange}, {"0 3", 8, -1, api.ErrRange}, {"0 3", 8, 1, api.OK}, {"0 3", 8, 400, api.OK}, {"0 3", 8, 401, api.ErrRange},
		{"1 3", 8, 5, points.ErrEdge}, {"1 3", 8, 2, points.ErrEdge}, {"1 3", 8, 1, points.ErrMore}, {"1 1", 8, 1, points.ErrEdge}, {"3 1", 8, 5, api.ErrRange},
	} {
		q, e := points.Derive(n, ranges(c.box), api.PtPlan{Bits: c.bits, Items: c.items})
		if e != c.want || e != api.OK && q.Items != nil {
			t.Errorf("Derive over %s with %d, %d = %v, %d", c.box, c.bits, c.items, q, e)
		}
	}
	if q, e := points.Derive(api.Net{}, nil, api.PtPlan{Bits: 8, Items: 1}); fmt.Sprint(q) != fmt.Sprint(proofOf(api.PtItem{Kind: api.PtOne})) || e != api.OK {
		t.Errorf("Derive of no unknowns = %v, %d", q, e)
	}
	// Exactly as many items as there are: one fewer is not enough.
	w := device(t, "-2 0 1")
	count := len(derived(t, w, "-4 4", 8, 400).Items)
	if _, e := points.Derive(w, ranges("-4 4"), api.PtPlan{Bits: 8, Items: count}); e != api.OK {
		t.Errorf("Derive with %d items = %d", count, e)
	}
	if _, e := points.Derive(w, ranges("-4 4"), api.PtPlan{Bits: 8, Items: count - 1}); e != points.ErrMore {
		t.Errorf("Derive with %d items = %d", count-1, e)
	}
}

// Numbers that are too long for a Val end the derivation, whichever part of an item they are.
func TestP4_5Long(t *testing.T) {
	// The span from lo to hi has no number of few bits, and numbers between its ends have more digits.
	unit := num(t, "9"+digits(1000)[1:])
	lo, _ := value.Div(num(t, "3"+digits(999)[1:998]+"01"), unit)
	step, _ := value.Div(value.Int(1), unit)
	box := string(value.Text(lo) + " " + value.Text(value.Add(lo, step)))
	far := string(digits(1000))
	for name, c := range map[string]struct {
		curve, box string
		want       api.Errno
	}{
		"Mid":       {string(value.Text(value.Neg(lo))) + " 1", box, api.ErrLong},
		"At":        {"0", box, api.ErrLong},
		"Inv":       {"-1 " + far, "-1 1", api.ErrLong},
		"Box.Hi":    {"-1/" + far + " 1", "1/" + far + " 1", api.ErrLong},
		"Box.Lo":    {"1/" + far + " 1", "-1 -1/" + far, api.ErrLong},
		"no number": {"-1/" + far + " 1", "-1/" + far + " 1", api.OK},
	} {
		n := device(t, c.curve)
		plan := api.PtPlan{Bits: 8, Items: 1} // it is the first item that ends it
		want, wantE := derive(n, ranges(c.box), plan)
		q, e := points.Derive(n, ranges(c.box), plan)
		if e != c.want || e != wantE || fmt.Sprint(q) != fmt.Sprint(want) {
			t.Errorf("%s: Derive = %.300v, %d, not %d", name, q, e, wantE)
		}
		if c.want != api.OK {
			continue
		}
		if ones, e := agree(t, n, ranges(c.box), q); ones != 1 || e != api.OK {
			t.Errorf("%s: Check = %d, %d", name, ones, e)
		}
	}
}

// latch is two transistors, each of which has its gate at the drain of the other one.
func latch(t testing.TB) api.Net {
	return read(t, "model q square 2 1", "i i1 0 1 16/3", "i i2 0 2 16/3", "r r1 1 0 1", "r r2 2 0 1", "m m1 1 2 0 q", "m m2 2 1 0 q")
}

// The latch has two states, and a point between them; W, with a source of current, has three points as well.
func TestP4_10ThreePoints(t *testing.T) {
	curved := read(t, rising, "i i1 0 1 5/4", "r r1 1 0 2", "d d1 1 0 k")
	for _, c := range []struct {
		n   api.Net
		box string
	}{{latch(t), "0 6 0 6"}, {latch(t), "-20 20 -20 20"}, {curved, "0 3"}, {curved, "-100 100"}} {
		for _, bits := range []int{4, 8, 16, 64, 200} {
			q := derived(t, c.n, c.box, bits, 400)
			if ones, e := agree(t, c.n, ranges(c.box), q); ones != 3 || e != api.OK {
				t.Errorf("Check over %s with %d bits = %d, %d", c.box, bits, ones, e)
			}
		}
	}
}

// T1: exactly the exact points of a piecewise linear net are in the boxes, one in each.
func TestP4_9(t *testing.T) {
	g := newNumbers()
	proved, found := 0, 0
	for range 400 {
		n := g.small(1+g.below(3), 1+g.below(5), 2, api.ElR, api.ElI, api.ElG, api.ElD, api.ElD, api.ElV)
		for node := 1; node <= n.Nodes; node++ {
			n.Elems = append(n.Elems, api.Elem{Kind: api.ElR, A: node, Val: g.above()})
		}
		exact, e := points.Exact(n)
		if e != api.OK {
			continue
		}
		size, _ := points.Size(n)
		box := g.wide(size)
		q, e := points.Derive(n, box, api.PtPlan{Bits: 10, Items: 100})
		if e != api.OK {
			continue
		}
		proved++
		inside := 0
		for _, x := range exact {
			if isIn(t, x, box) {
				inside++
			}
		}
		ones, item, e := points.Check(n, box, q)
		boxes, _ := points.Boxes(n, box, q)
		if ones != inside || item != 0 || e != api.OK || len(boxes) != ones {
			t.Fatalf("%v over %s: Check = %d, %d, %d, of %d points", n, showRanges(box), ones, item, e, inside)
		}
		found += ones
		for _, x := range exact {
			in := 0
			for _, b := range boxes {
				if isIn(t, x, b) {
					in++
				}
			}
			if isIn(t, x, box) != (in == 1) || in > 1 {
				t.Fatalf("%v over %s: the point %s is in %d boxes", n, showRanges(box), show(x), in)
			}
		}
	}
	if proved < 150 || found < 20 {
		t.Errorf("%d proofs, %d points", proved, found)
	}
}

func isIn(t *testing.T, x []value.Num, box []api.Range) bool {
	for i, r := range box {
		if value.Cmp(x[i], num(t, r.Lo)) < 0 || value.Cmp(x[i], num(t, r.Hi)) > 0 {
			return false
		}
	}
	return true
}

// Curves of one unknown have their roots.
func TestP4_9Curves(t *testing.T) {
	for _, c := range []struct {
		curve, box string
		roots      int
	}{
		{"-6 11 -6 1", "1/2 7/2", 3}, {"-6 11 -6 1", "3/2 9", 2}, {"-2 0 1", "-9 9", 2}, {"2 0 1", "-9 9", 0}, {"-1/100 0 1", "-1 2", 2}, {"0 1 0 1", "-5 3", 1},
		{"1 0 1 | 0 | 1 1", "-9 9", 0}, {"-1 0 1 | 1 | 1 -1", "-9 9", 0},
	} {
		n := device(t, c.curve)
		q, e := points.Derive(n, ranges(c.box), api.PtPlan{Bits: 20, Items: 100})
		if c.curve == "-1 0 1 | 1 | 1 -1" {
			// The root at the break is one where the slope changes its sign.
			if e != points.ErrMore {
				t.Errorf("Derive of %s = %d", c.curve, e)
			}
			continue
		}
		if ones, _, f := points.Check(n, ranges(c.box), q); ones != c.roots || e != api.OK || f != api.OK {
			t.Errorf("%s over %s: %d roots, %d, %d", c.curve, c.box, ones, e, f)
		}
	}
}
