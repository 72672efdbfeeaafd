package wave_test

import (
	"slices"
	"testing"

	"pentode/api"
	"pentode/points"
	"pentode/value"
	"pentode/wave"
)

// This file holds enclosures and traps against waves that are known.

// known is the wave of a net from some numbers, at a time, up to a little.
type known func(from []value.Num, time value.Num) []value.Num

// isIn is whether a box has some numbers, up to a little.
func isIn(box []api.Range, x []value.Num, little value.Num) bool {
	for k, s := range spansOf(box) {
		if value.Cmp(x[k], minus(s.Lo, little)) < 0 || value.Cmp(x[k], plus(s.Hi, little)) > 0 {
			return false
		}
	}
	return true
}

// from are numbers of a box: often ends.
func (g *numbers) from(box []api.Range) []value.Num {
	var x []value.Num
	for _, s := range spansOf(box) {
		x = append(x, g.inside(s))
	}
	return x
}

// follow holds the boxes of Enclose, if there are any, against waves from the box. It returns whether there are.
func (g *numbers) follow(t *testing.T, n api.Net, box []api.Range, h value.Num, waves int, w known, little value.Num) bool {
	t.Helper()
	steps, bits := 1+g.below(4), 6+g.below(60)
	l, e := wave.Enclose(n, box, value.Text(h), steps, bits)
	if e != api.OK {
		return false
	}
	for range waves {
		from := g.from(box)
		for i, after := range l {
			at := w(from, times(h, value.Int(int64(i+1))))
			if !isIn(after, at, little) {
				t.Fatalf("%v: the wave from %s in %s by %s is at %s, but the box %d is %s", n, show(from), showRanges(box), value.Text(h), show(at), i, showRanges(after))
			}
		}
	}
	return true
}

// rise is how fast the voltages of an integrating net rise.
func rise(n api.Net, x []value.Num) []value.Num {
	r, _ := points.Residual(n, x)
	for k := range r {
		r[k] = value.Neg(over(r[k], capacitance(n, k+1)))
	}
	return r
}

// linear is the wave of a net whose equations are linear, by its series of powers of the time.
func linear(n api.Net) known {
	return func(from []value.Num, time value.Num) []value.Num {
		base := rise(n, make([]value.Num, n.Nodes))
		sum, term := slices.Clone(from), from
		for k := 1; k <= 80; k++ {
			next := rise(n, term)
			for i := range next {
				if k > 1 {
					next[i] = minus(next[i], base[i]) // what does not depend on voltages is in the first term alone
				}
				next[i] = value.Down(over(times(next[i], time), value.Int(int64(k))), 200)
				sum[i] = plus(sum[i], next[i])
			}
			term = next
		}
		for _, x := range term {
			if value.Cmp(value.Abs(x), power(-80)) > 0 {
				panic("the series is too short")
			}
		}
		return sum
	}
}

// runge is the wave of any integrating net, by the rule of Runge and Kutta in some steps.
func runge(n api.Net) known {
	const steps = 32
	return func(from []value.Num, time value.Num) []value.Num {
		h := over(time, value.Int(steps))
		along := func(x []value.Num, h value.Num, rates []value.Num) []value.Num {
			var to []value.Num
			for k := range x {
				to = append(to, value.Down(plus(x[k], times(h, rates[k])), 60))
			}
			return to
		}
		half, sixth := over(h, value.Int(2)), over(h, value.Int(6))
		x := from
		for range steps {
			a := rise(n, x)
			b := rise(n, along(x, half, a))
			c := rise(n, along(x, half, b))
			d := rise(n, along(x, h, c))
			for _, part := range [][]value.Num{a, b, b, c, c, d} {
				x = along(x, sixth, part)
			}
		}
		return x
	}
}

// The current of a square is known: v' = - k v v.
func TestP6_11Squares(t *testing.T) {
	g := newNumbers()
	found := 0
	for range 200 {
		c := g.above()
		n := api.Net{Nodes: 1, Elems: []api.Elem{{Kind: api.ElC, A: 1, Val: value.Text(c)}, {Kind: api.ElD, A: 1}}}
		n.Models = []api.Model{{Kind: api.MdCurve, Pieces: [][]api.Val{{"0", "0", "1"}}}}
		k := over(value.Int(1), c)
		if g.below(2) == 0 { // a transistor whose gate is its drain takes half of the square
			n.Elems[1] = api.Elem{Kind: api.ElM, A: 1, C: 1}
			n.Models[0] = api.Model{Kind: api.MdSquare, Kp: "1", Vt: "0"}
			k = over(k, value.Int(2))
		}
		lo := g.above()
		box := []api.Range{value.SpanText(value.Span{Lo: lo, Hi: plus(lo, over(value.Int(int64(g.below(8))), value.Int(8)))})}
		h := over(value.Int(int64(1+g.below(8))), value.Int(64))
		w := func(from []value.Num, time value.Num) []value.Num {
			return []value.Num{over(from[0], plus(value.Int(1), times(k, times(time, from[0]))))}
		}
		if g.follow(t, n, box, h, 5, w, value.Num{}) {
			found++
		}
	}
	if found < 50 {
		t.Errorf("only %d enclosures", found)
	}
}

// A current that does not depend on the voltage: the box is moved, and gets no wider.
func TestP6_11Ramps(t *testing.T) {
	g := newNumbers()
	for range 50 {
		rate, h := g.num(), g.above()
		n := api.Net{Nodes: 1, Elems: []api.Elem{{Kind: api.ElC, A: 1, Val: "1/2"}, {Kind: api.ElI, B: 1, Val: value.Text(over(rate, value.Int(2)))}}}
		w := func(from []value.Num, time value.Num) []value.Num {
			return []value.Num{plus(from[0], times(rate, time))}
		}
		if !g.follow(t, n, g.ranges(1), h, 5, w, value.Num{}) {
			t.Errorf("%v: there is no enclosure", n)
		}
	}
}

// A curve with a corner: the voltage rises with the speed 1 up to 0, and with the speed 1 - v from there on.
func TestP6_11Corner(t *testing.T) {
	g := newNumbers()
	n := read(t, "model k curve -1 | 0 | -1 1; d d1 1 0 k; c c1 1 0 1")
	above := linear(read(t, "r r1 1 0 1; i i1 0 1 1; c c1 1 0 1"))
	w := func(from []value.Num, time value.Num) []value.Num {
		at := plus(from[0], time)
		if value.Sign(from[0]) < 0 && value.Sign(at) > 0 {
			return above([]value.Num{{}}, at)
		}
		if value.Sign(from[0]) < 0 {
			return []value.Num{at}
		}
		return above(from, time)
	}
	for k := range 40 {
		lo := over(value.Int(int64(k-36)), value.Int(16))
		box := []api.Range{value.SpanText(value.Span{Lo: lo, Hi: plus(lo, over(value.Int(int64(g.below(4))), value.Int(8)))})}
		if !g.follow(t, n, box, over(value.Int(int64(1+k%12)), value.Int(16)), 5, w, power(-60)) {
			t.Errorf("there is no enclosure from %s", showRanges(box))
		}
	}
}

// lines is an integrating net whose equations are linear.
func (g *numbers) lines(nodes int) api.Net {
	n := g.flowing(nodes, 0, 1)
	for range g.below(8) {
		one := g.net(nodes, 1, 1, api.ElR, api.ElI, api.ElG, api.ElS)
		n.Elems = append(n.Elems, one.Elems...)
	}
	return n
}

func TestP6_11Lines(t *testing.T) {
	g := newNumbers()
	found := 0
	for range 200 {
		n := g.lines(1 + g.below(3))
		h := over(value.Int(int64(1+g.below(8))), value.Int(int64(16+g.below(200))))
		if g.follow(t, n, g.ranges(n.Nodes), h, 3, linear(n), power(-60)) {
			found++
		}
	}
	if found < 80 {
		t.Errorf("only %d enclosures", found)
	}
}

func TestP6_11Curves(t *testing.T) {
	g := newNumbers()
	found := 0
	for range 80 {
		n := g.flowing(1+g.below(2), 1+g.below(5), 3)
		h := over(value.Int(int64(1+g.below(8))), value.Int(int64(64+g.below(200))))
		if g.follow(t, n, g.ranges(n.Nodes), h, 2, runge(n), power(-8)) {
			found++
		}
	}
	if found < 30 {
		t.Errorf("only %d enclosures", found)
	}
}

// Waves from a trap are in it at any time.
func TestP6_11Traps(t *testing.T) {
	g := newNumbers()
	traps, others, left := 0, 0, 0
	for range 1200 {
		n := g.lines(1 + g.below(2))
		box := g.ranges(n.Nodes)
		trap, _ := wave.Trap(n, box)
		if !trap && others > 40 {
			continue
		}
		leaves := false
		for range 2 {
			from := g.from(box)
			for _, time := range []value.Num{power(-6), power(-3)} {
				leaves = leaves || !isIn(box, linear(n)(from, time), power(-60))
			}
		}
		switch {
		case trap && leaves:
			t.Fatalf("%v: waves leave %s", n, showRanges(box))
		case trap:
			traps++
		default:
			others++
			if leaves {
				left++
			}
		}
	}
	if traps < 40 || left < 20 {
		t.Errorf("there are %d traps; %d of %d other boxes are left", traps, left, others)
	}
}
