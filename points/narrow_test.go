package points_test

import (
	"testing"

	"pentode/api"
	"pentode/points"
	"pentode/value"
)

// P4.6, and of P4.12 that the result is within the box.
func TestP4_6Definitions(t *testing.T) {
	g := newNumbers()
	errors, changed := map[api.Errno]int{}, 0
	for range 400 {
		n := g.lively(1 + g.below(3))
		size, _ := points.Size(n)
		box := g.ranges(size)
		bits, rounds := []int{4, 5, 8, 16, 200}[g.below(5)], g.below(6)
		want, wantE := narrow(n, box, bits, rounds)
		l, e := points.Narrow(n, box, bits, rounds)
		if showRanges(l) != showRanges(want) || len(l) != len(want) || e != wantE {
			t.Fatalf("%v over %s: Narrow with %d, %d = %s, %d, not %s, %d", n, showRanges(box), bits, rounds, showRanges(l), e, showRanges(want), wantE)
		}
		errors[e]++
		for i, r := range l {
			if value.Cmp(num(t, r.Lo), num(t, box[i].Lo)) < 0 || value.Cmp(num(t, r.Hi), num(t, box[i].Hi)) > 0 {
				t.Fatalf("%s is not within %s", showRanges(l), showRanges(box))
			}
		}
		if e == api.OK && showRanges(l) != showRanges(box) {
			changed++
		}
	}
	if errors[api.OK] < 50 || errors[points.ErrFault] < 50 || changed < 20 {
		t.Errorf("errors %v, %d are changed", errors, changed)
	}
}

func TestP4_6Narrow(t *testing.T) {
	tiny := "1/" + string(digits(1000))
	for _, c := range []struct {
		curve, box   string
		bits, rounds int
		want         string
		e            api.Errno
	}{
		{"-1 1", "0 3", 8, 0, "0 3", api.OK},
		{"-1 1", "0 3", 8, 1, "1 1", api.OK},
		{"-1 1", "0 3", 8, 60, "1 1", api.OK},
		{"-1 1", "1 3", 8, 60, "1 1", api.OK},
		{"-1 1", "9/8 3", 8, 60, "", points.ErrFault},
		{"-1 1", "9/8 3", 8, 0, "9/8 3", api.OK},
		{"-1 1", "9/8 9/8", 8, 1, "", points.ErrFault},
		{"-1 1", "1 1", 8, 1, "1 1", api.OK},
		// 1/3 between numbers of 4 bits, and of 8
		{"-1/3 1", "0 3", 4, 60, "5/16 11/32", api.OK},
		{"-1/3 1", "0 3", 8, 60, "85/256 171/512", api.OK},
		{"-1/3 1", "1/3 3", 4, 60, "1/3 11/32", api.OK},
		{"-1/3 1", "0 1/3", 4, 60, "5/16 1/3", api.OK},
		// no inverse: the slope in the middle is 0
		{"-2 0 1", "-4 4", 8, 5, "-4 4", api.OK},
		{"0", "-4 4", 8, 5, "-4 4", api.OK},
		{"1", "-4 4", 8, 5, "-4 4", api.OK},
		// rounded numbers are not outside of the box
		{"-2 0 1", "1 2", 200, 1, "85792092460694408350135119959166556541265671755418650676439/62771017353866807638357894232076664161023554444640345128960 1", api.OK},
		// the root is 10^-999: its neighbours of few bits have too many digits
		{"-" + tiny + " 1", "0 1", 8, 60, "", api.ErrLong},
		{"-" + tiny + " 1", "0 1", 8, 0, "0 1", api.OK},
		{"-" + tiny + " 1", tiny + " 1", 8, 60, "", api.ErrLong},
		{tiny + " 1", "-1 -" + tiny, 8, 60, "", api.ErrLong},
		{"-" + tiny + " 1", tiny + " " + tiny, 8, 60, tiny + " " + tiny, api.OK},
	} {
		n := device(t, c.curve)
		if c.bits == 200 {
			want, e := narrow(n, ranges(c.box), c.bits, c.rounds)
			if l, f := points.Narrow(n, ranges(c.box), c.bits, c.rounds); showRanges(l) != showRanges(want) || e != f {
				t.Errorf("Narrow of %s over %s = %s, %d", c.curve, c.box, showRanges(l), f)
			}
			continue
		}
		l, e := points.Narrow(n, ranges(c.box), c.bits, c.rounds)
		if showRanges(l) != c.want || e != c.e || e != api.OK && l != nil {
			t.Errorf("Narrow of %.40s over %.40s with %d, %d = %.80s, %d", c.curve, c.box, c.bits, c.rounds, showRanges(l), e)
		}
	}
}

// Boxes around an operating point at 0 have twice, or three times as many digits after each round.
func TestP4_6TooFar(t *testing.T) {
	for _, c := range []struct {
		curve, box string
		rounds     int
		want       api.Errno
	}{
		{"0 1 1", "-1/4 1/4", 10, api.OK}, {"0 1 1", "-1/4 1/4", 14, api.ErrLong}, {"0 1 1", "-1/4 1/4", 60, api.ErrLong},
		{"0 1 0 1", "-1/4 1/4", 60, api.ErrLong}, {"0 1 1", "0 1/4", 60, api.OK}, {"0 1 1", "-1/4 1/3", 60, api.ErrLong},
	} {
		n := device(t, c.curve)
		if _, e := points.Narrow(n, ranges(c.box), 8, c.rounds); e != c.want {
			t.Errorf("Narrow of %s over %s with %d = %d", c.curve, c.box, c.rounds, e)
		}
		if c.rounds < 20 {
			if _, e := narrow(n, ranges(c.box), 8, c.rounds); e != c.want {
				t.Errorf("%s over %s with %d: %d by the definitions", c.curve, c.box, c.rounds, e)
			}
		}
	}
	// Between breaks at 2^-2100 there is a line through 0: so ends that were too long by then are short again.
	power, _ := value.Pow(value.Int(2), 50)
	near, _ := value.Pow(power, -42)
	at, one := string(value.Text(near)), value.Int(1)
	left, right := string(value.Text(value.Add(one, near))), string(value.Text(value.Sub(one, near)))
	w := device(t, "0 "+left+" 1 | -"+at+" | 0 1 | "+at+" | 0 "+right+" 1")
	for rounds, want := range map[int]string{12: "", 13: "0 0", 60: "0 0"} {
		l, e := points.Narrow(w, ranges("-1/4 1/4"), 8, rounds)
		if showRanges(l) != want || (e == api.ErrLong) != (want == "") {
			t.Errorf("Narrow with %d rounds = %.80s, %d", rounds, showRanges(l), e)
		}
	}
	// Breaks that are not that close end this sooner.
	n := device(t, "0 1 1 | -1/1024 | 0 1023/1024 | 1/1024 | -1/524288 1 1")
	for rounds := range 20 {
		want, wantE := narrow(n, ranges("-1/4 1/4"), 8, rounds)
		if l, e := points.Narrow(n, ranges("-1/4 1/4"), 8, rounds); showRanges(l) != showRanges(want) || e != wantE {
			t.Errorf("Narrow with %d rounds = %s, %d", rounds, showRanges(l), e)
		}
	}
}

func TestP4_6Errors(t *testing.T) {
	n := line(t)
	for _, c := range []struct {
		box          string
		bits, rounds int
		want         api.Errno
	}{
		{"0 3", 3, 1, api.ErrRange}, {"0 3", 4, 1, api.OK}, {"0 3", 200, 1, api.OK}, {"0 3", 201, 1, api.ErrRange}, {"0 3", -8, 1, api.ErrRange},
		{"0 3", 8, -1, api.ErrRange}, {"0 3", 8, 60, api.OK}, {"0 3", 8, 61, api.ErrRange}, {"3 0", 8, 1, api.ErrRange}, {"0 x", 3, 1, api.ErrForm}, {"", 3, 1, api.ErrArg},
	} {
		l, e := points.Narrow(n, ranges(c.box), c.bits, c.rounds)
		if e != c.want || e != api.OK && l != nil {
			t.Errorf("Narrow over %s with %d, %d = %s, %d", c.box, c.bits, c.rounds, showRanges(l), e)
		}
	}
	if l, e := points.Narrow(api.Net{}, nil, 8, 60); len(l) != 0 || e != api.OK {
		t.Errorf("Narrow of no unknowns = %v, %d", l, e)
	}
}

// P4.12: no operating point is lost.
func TestP4_12(t *testing.T) {
	g := newNumbers()
	kept := 0
	for range 300 {
		n := g.small(1+g.below(3), 1+g.below(5), 2, api.ElR, api.ElI, api.ElG, api.ElD, api.ElD, api.ElV)
		for node := 1; node <= n.Nodes; node++ {
			n.Elems = append(n.Elems, api.Elem{Kind: api.ElR, A: node, Val: g.above()})
		}
		exact, e := points.Exact(n)
		if e != api.OK {
			continue
		}
		for _, x := range exact {
			// a box that has the point, sometimes at an end
			var box []api.Range
			for _, v := range x {
				low, _ := value.Ratio(int64(-g.below(3)), int64(1+g.below(9)))
				high, _ := value.Ratio(int64(g.below(3)), int64(1+g.below(9)))
				box = append(box, api.Range{Lo: value.Text(value.Add(v, low)), Hi: value.Text(value.Add(v, high))})
			}
			l, e := points.Narrow(n, box, 4+g.below(30), g.below(12))
			if e != api.OK {
				t.Fatalf("%v over %s: Narrow = %d", n, showRanges(box), e)
			}
			for _, y := range exact {
				if isIn(t, y, box) != isIn(t, y, l) {
					t.Fatalf("%v over %s: Narrow = %s loses %s", n, showRanges(box), showRanges(l), show(y))
				}
				kept++
			}
		}
	}
	if kept < 100 {
		t.Errorf("%d points are kept", kept)
	}
}
