package plan_test

import (
	"strconv"
	"strings"
	"testing"

	"pentode/api"
	"pentode/net"
	"pentode/plan"
)

// m, r and c are elements.
func m(a, b, gate, model int) api.Elem {
	return api.Elem{Kind: api.ElM, A: a, B: b, C: gate, Model: model}
}

func r(a, b int, v api.Val) api.Elem {
	return api.Elem{Kind: api.ElR, A: a, B: b, Val: v}
}

func c(a, b int, v api.Val) api.Elem {
	return api.Elem{Kind: api.ElC, A: a, B: b, Val: v}
}

func TestP9_3Transistors(t *testing.T) {
	// The end with the lesser number is A, whichever way it lies; the ground is the least one.
	isFound(t, "ends the other way", layout("diff 0 0 5 2, poly 2 0 1 3", "s diff 4 0, g poly 2 2, d diff 0 0"), "s g d", []api.Elem{m(1, 3, 2, 0)}, square("4", "1"))
	isFound(t, "an end at the ground", layout("diff 0 0 5 2, poly 2 0 1 3", "d diff 0 0, 0 diff 4 0"), "d n2", []api.Elem{m(0, 1, 2, 0)}, square("4", "1"))
	isFound(t, "a gate at the ground", layout("diff 0 0 5 2, poly 2 0 1 3", "0 poly 2 2"), "n1 n2", []api.Elem{m(1, 2, 0, 0)}, square("4", "1"))
	// With a single end, both are this one, also if it is met on both sides.
	isFound(t, "one side", layout("diff 0 0 3 2, poly 2 0 1 3", "d diff 0 0"), "d n2", []api.Elem{m(1, 1, 2, 0)}, square("1", "1"))
	isFound(t, "one node on both sides", layout("diff 0 0 5 2, poly 2 0 1 3", "d diff 0 0, d diff 4 0"), "d n2", []api.Elem{m(1, 1, 2, 0)}, square("4", "1"))
	isFound(t, "the ground on both sides", layout("diff 0 0 5 2, poly 2 0 1 3", "0 diff 0 0, 0 diff 4 0"), "n1", []api.Elem{m(0, 0, 1, 0)}, square("4", "1"))
	// A long one, and one with a corner: 3 cells with 5 edges.
	isFound(t, "a long one", layout("diff 0 0 6 1, poly 1 0 4 1", ""), "n1 n2 n3", []api.Elem{m(1, 2, 3, 0)}, square("1/2", "1"))
	isFound(t, "a corner", layout("diff 0 0 2 2, poly 1 0 1 2, poly 0 1 1 1, diff 2 0 1 1", "a diff 0 0, b diff 2 0"), "a b n3", []api.Elem{m(1, 2, 3, 0)}, square("3/2", "1"))
	// A neighbour that is of two cells makes two edges.
	isFound(t, "a hole", layout("diff 0 0 3 3, poly 0 0 3 1, poly 0 2 3 1, poly 0 1 1 1, poly 2 1 1 1", ""), "n1 n2", []api.Elem{m(1, 1, 2, 0)}, square("1", "1"))
	// Two transistors of one diffusion, and what lies beside: poly, or diffusion at corners, makes no edge.
	isFound(t, "two in a row", layout("diff 0 0 5 1, poly 1 0 1 2, poly 3 0 1 2", ""), "n1 n2 n3 n4 n5", []api.Elem{m(1, 2, 4, 0), m(2, 3, 5, 0)}, square("2", "1"))
	isFound(t, "a corner beside", layout("diff 0 0 3 1, poly 1 0 1 1, diff 0 1 1 1, diff 5 5 1 1", ""), "n1 n2 n3 n4", []api.Elem{m(1, 2, 4, 0)}, square("2", "1"))
	// Channels whose cells touch at a corner alone are two.
	isFound(t, "channels at a corner", layout("diff 0 0 2 1, poly 1 0 1 1, diff 2 1 2 1, poly 2 1 1 1", ""), "n1 n2 n3 n4", []api.Elem{m(1, 1, 3, 0), m(2, 2, 4, 0)}, square("1/2", "1"))
}

func TestP9_3Models(t *testing.T) {
	// Models come in the order of the transistors, each different one once.
	l := layout("diff 0 0 3 1, poly 1 0 1 1, diff 5 0 3 2, poly 6 0 1 2, diff 0 4 3 1, poly 1 4 1 1, diff 10 4 3 3, poly 11 4 1 3, diff 20 8 3 2, poly 21 8 1 2", "")
	l.Tech.Kp, l.Tech.Vt = "1/3", "-7/2"
	isFound(t, "five transistors", l, "n1 n2 n3 n4 n5 n6 n7 n8 n9 n10 n11 n12 n13 n14 n15", []api.Elem{
		m(1, 2, 11, 0), m(3, 4, 12, 1), m(5, 6, 13, 0), m(7, 8, 14, 2), m(9, 10, 15, 1),
	}, square("1/3", "-7/2"), square("2/3", "-7/2"), square("1", "-7/2"))
	// 4 cells with 4 edges are square, as is one with 2: they share a model.
	isFound(t, "squares", layout("diff 0 0 3 1, poly 1 0 1 1, diff 5 0 4 2, poly 6 0 2 2", ""), "n1 n2 n3 n4 n5 n6", []api.Elem{m(1, 2, 5, 0), m(3, 4, 6, 0)}, square("2", "1"))
}

func TestP9_3Resistors(t *testing.T) {
	isFound(t, "ends the other way", layout("poly 0 0 6 1, mark 1 0 4 1", "b poly 5 0, a poly 0 0"), "b a", []api.Elem{r(1, 2, "40")})
	isFound(t, "an end at the ground", layout("poly 0 0 6 1, mark 1 0 4 1", "0 poly 5 0"), "n1", []api.Elem{r(0, 1, "40")})
	isFound(t, "a wide one", layout("poly 0 0 3 6, mark 0 1 3 4", ""), "n1 n2", []api.Elem{r(1, 2, "40/3")})
	isFound(t, "a bend", layout("poly 0 0 4 1, poly 3 0 1 4, mark 1 0 9 3", ""), "n1 n2", []api.Elem{r(1, 2, "50")})
	isFound(t, "two of them", layout("poly 0 0 3 1, mark 1 0 1 1, poly 9 5 4 1, mark 10 5 2 1", ""), "n1 n2 n3 n4", []api.Elem{r(1, 2, "10"), r(3, 4, "20")})
	isFound(t, "ends that a wire connects with other ones", layout("poly 0 0 3 1, mark 1 0 1 1, poly 4 0 3 1, mark 5 0 1 1, metal 2 0 3 1, cut 2 0 3 1", ""), "n1 n2 n3", []api.Elem{r(1, 2, "10"), r(2, 3, "10")})
	// Mark without poly is nothing; all transistors are before all resistors.
	isFound(t, "mark alone", layout("mark 0 0 9 9", ""), "", nil)
	isFound(t, "both", layout("poly 0 0 3 1, mark 1 0 1 1, diff 20 9 3 1, poly 21 9 1 1", ""), "n1 n2 n3 n4 n5", []api.Elem{m(1, 2, 5, 0), r(3, 4, "10")}, square("2", "1"))
	isFound(t, "poly that is a gate and an end", layout("poly 0 0 4 1, mark 1 0 1 1, diff 3 0 1 1, diff 3 1 1 1", ""), "n1 n2 n3", []api.Elem{m(1, 1, 3, 0), r(2, 3, "10")}, square("1/2", "1"))
}

func TestP9_3Rules(t *testing.T) {
	for _, c := range []struct {
		rects, labels string
		e             api.Errno
	}{
		{"diff 2 0 1 2, poly 2 0 1 3", "", plan.ErrRule},
		{"diff 2 0 1 2, poly 0 0 9 9", "", plan.ErrRule},
		{"diff 2 0 1 1, poly 2 0 1 1, diff 3 1 1 1", "", plan.ErrRule},
		{"diff 1 0 1 3, diff 0 1 3 1, poly 1 1 1 1", "", plan.ErrRule},
		{"diff 1 0 1 3, diff 0 1 3 1, poly 1 1 1 1", "a diff 1 0, a diff 0 1", plan.ErrRule},
		{"diff 1 0 1 3, diff 0 1 3 1, poly 1 1 1 1", "a diff 1 0, a diff 0 1, 0 diff 2 1, 0 diff 1 2", api.OK},
		{"diff 0 0 3 1, diff 1 0 1 2, poly 1 0 1 1", "", plan.ErrRule},
		{"poly 1 0 3 1, mark 1 0 3 1", "", plan.ErrRule},
		{"poly 1 0 4 1, mark 1 0 3 1", "", plan.ErrRule},
		{"poly 0 0 5 1, mark 1 0 3 1", "a poly 0 0, a poly 4 0", plan.ErrRule},
		{"poly 0 0 5 1, mark 1 0 3 1", "0 poly 0 0, 0 poly 4 0", plan.ErrRule},
		{"poly 0 0 5 1, mark 1 0 3 1, metal 0 0 5 1, cut 0 0 5 1", "", plan.ErrRule},
		{"poly 0 0 5 1, mark 1 0 3 1, poly 2 1 1 1", "", plan.ErrRule},
		{"poly 0 0 5 1, mark 1 0 3 1, poly 2 1 1 1", "a poly 2 1, a poly 0 0", api.OK},
		{"poly 0 0 3 3, mark 1 1 1 1", "", plan.ErrRule},
		{"poly 0 0 1 1, mark 0 0 1 1, poly 1 1 1 1", "", plan.ErrRule},
		{"diff 0 0 3 1, poly 1 0 1 1, poly 9 9 1 1, mark 9 9 1 1", "", plan.ErrRule},
	} {
		l := layout(c.rects, c.labels)
		hasError(t, c.rects+"; "+c.labels, l, c.e)
		if is, e := plan.Matched(l, 0, 99); c.e != api.OK && (is || e != c.e) {
			t.Errorf("Matched with %s = %t, %d", c.rects, is, e)
		}
	}
}

func TestP9_3Crossings(t *testing.T) {
	// Node 1 is above at one crossing and below at another one; crossings within a node do not count.
	l := layout("metal 0 0 6 1, top 0 4 6 1, metal 4 2 1 5, top 2 0 2 2, top 0 0 1 1, via 0 0 1 1", "a metal 0 0, b metal 4 2, a top 5 4, b top 2 0, 0 top 0 0")
	hasError(t, "a short", l, plan.ErrShort)
	l.Labels = l.Labels[:4]
	isFound(t, "no capacitors", l, "a b", nil)
	l.Tech.Cross = "3/7"
	isFound(t, "crossings", l, "a b", []api.Elem{c(1, 2, "9/7")})
	l.Tech.Area, l.Tech.Cross = "1/4", "0"
	isFound(t, "areas", l, "a b", []api.Elem{c(1, 0, "13/4"), c(2, 0, "9/4")})
	// The ground has crossings, but no area; a crossing is told once for each pair, ascending.
	l = layout("metal 0 0 9 1, metal 0 2 9 1, metal 0 4 9 1, top 1 0 1 5, top 3 0 1 5, top 5 0 1 1", "0 metal 0 2, x top 3 0")
	l.Tech.Area, l.Tech.Cross = "1", "1"
	isFound(t, "a grid", l, "x n2 n3 n4 n5", []api.Elem{
		c(0, 1, "1"), c(0, 4, "1"), c(1, 2, "1"), c(1, 3, "1"), c(2, 4, "1"), c(2, 5, "1"), c(3, 4, "1"),
		c(1, 0, "5"), c(2, 0, "9"), c(3, 0, "9"), c(4, 0, "5"), c(5, 0, "1"),
	})
	// Diffusion and poly have no capacitance, also where they are connected with metal.
	l = layout("diff 0 0 9 1, poly 0 2 9 1, metal 0 0 1 3, cut 0 0 1 3, top 5 0 1 3", "")
	l.Tech.Area, l.Tech.Cross = "2", "2"
	isFound(t, "wires over diffusion and poly", l, "n1 n2", []api.Elem{c(1, 0, "6"), c(2, 0, "6")})
	// Capacitors come after all devices.
	l = layout("metal 0 0 1 1, top 0 0 1 1, poly 9 0 3 1, mark 10 0 1 1, diff 9 5 3 1, poly 10 5 1 1", "")
	l.Tech.Area, l.Tech.Cross = "1", "1"
	isFound(t, "all of them", l, "n1 n2 n3 n4 n5 n6 n7", []api.Elem{m(1, 2, 5, 0), r(3, 4, "10"), c(6, 7, "1"), c(6, 0, "1"), c(7, 0, "1")}, square("2", "1"))
}

// bars are so many transistors or resistors beside each other, of the lengths told.
func bars(kind string, lengths ...int) string {
	var list []string
	for i, n := range lengths {
		at, length := strconv.Itoa(2*(i%16))+" "+strconv.Itoa(10*(i/16)), strconv.Itoa(n)
		if kind == "mark" {
			list = append(list, "poly "+at+" 1 "+strconv.Itoa(n+2), "mark "+strconv.Itoa(2*(i%16))+" "+strconv.Itoa(10*(i/16)+1)+" 1 "+length)
		} else {
			list = append(list, "diff "+at+" 1 "+strconv.Itoa(n+2), "poly "+strconv.Itoa(2*(i%16))+" "+strconv.Itoa(10*(i/16)+1)+" 1 "+length)
		}
	}
	return strings.Join(list, ", ")
}

func TestP9_3TooManyModels(t *testing.T) {
	// All gates are one node, and all ends another one.
	label := func(count int) string {
		var list []string
		for i := range count {
			x, y := strconv.Itoa(2*(i%16)), 10*(i/16)
			list = append(list, "a diff "+x+" "+strconv.Itoa(y), "g poly "+x+" "+strconv.Itoa(y+1))
		}
		return strings.Join(list, ", ")
	}
	hasError(t, "8 models", layout(bars("poly", 1, 2, 3, 4, 5, 6, 7, 8, 1, 2), label(10)), api.OK)
	hasError(t, "9 models", layout(bars("poly", 1, 2, 3, 4, 5, 6, 7, 8, 9), label(9)), api.ErrLong)
	// A device that is none comes first.
	hasError(t, "9 models and no device", layout(bars("poly", 1, 2, 3, 4, 5, 6, 7, 8, 9)+", poly 31 31 1 1, mark 31 31 1 1", label(9)), plan.ErrRule)
}

// comb is so many resistors between two rails of poly.
func comb(count int) api.PlLayout {
	l := layout("poly 0 0 32 1, poly 0 3 32 1", "")
	for i := range count {
		if i == 16 || i == 32 || i == 48 {
			y := 3 * i / 16
			l.Rects = append(l.Rects, api.PlRect{Layer: api.LyPoly, Y: y + 3, W: 32, H: 1})
		}
		l.Rects = append(l.Rects, api.PlRect{Layer: api.LyPoly, X: i % 16 * 2, Y: i/16*3 + 1, W: 1, H: 2}, api.PlRect{Layer: api.LyMark, X: i % 16 * 2, Y: i/16*3 + 1, W: 1, H: 2})
	}
	return l
}

func TestP9_3TooManyElements(t *testing.T) {
	limit := comb(50)
	f, e := plan.Extract(limit)
	if e != api.OK || len(f.Net.Elems) != 50 || f.Net.Nodes != 5 || f.Net.Elems[49] != r(4, 5, "20") {
		t.Errorf("Extract of 50 resistors = %v, %d", f, e)
	}
	// Each wire that crosses another one makes three more elements: the crossing, and both areas.
	crossed := func(resistors, wires int) api.PlLayout {
		l := comb(resistors)
		l.Tech.Area, l.Tech.Cross = "1", "1"
		for i := range wires {
			l.Rects = append(l.Rects, api.PlRect{Layer: api.LyMetal, X: 8 * i, Y: 20, W: 7, H: 1}, api.PlRect{Layer: api.LyTop, X: 8 * i, Y: 20, W: 1, H: 8})
		}
		return l
	}
	for _, k := range []struct {
		resistors, wires int
		e                api.Errno
	}{{50, 3, api.OK}, {50, 4, api.ErrLong}, {48, 4, api.OK}, {49, 4, api.ErrLong}} {
		f, e := plan.Extract(crossed(k.resistors, k.wires))
		if e != k.e || e == api.OK && len(f.Net.Elems) != k.resistors+3*k.wires {
			t.Errorf("Extract of %d resistors and %d wires has %d elements, %d", k.resistors, k.wires, len(f.Net.Elems), e)
		}
	}
	l := crossed(49, 4)
	l.Labels = []api.PlLabel{{Name: "0", Layer: api.LyTop, Y: 20}}
	hasError(t, "60 elements, as the ground has no area", l, api.OK)
}

func TestP9_3LongNumbers(t *testing.T) {
	long, wide := "poly 0 0 12 1, mark 1 0 10 1", "poly 0 0 10 3, mark 0 1 10 1" // ten squares in a row, or beside each other
	wideGate, longGate := "diff 0 0 3 10, poly 1 0 1 10", "diff 0 0 12 1, poly 1 0 10 1"
	for _, k := range []struct {
		v             api.Val
		times, divide api.Errno
	}{
		{digits(999), api.OK, api.OK}, {digits(1000), api.ErrLong, api.OK},
		{"1/" + digits(999), api.OK, api.OK}, {"1/" + digits(1000), api.OK, api.ErrLong},
	} {
		for rects, want := range map[string]api.Errno{long: k.times, wide: k.divide, wideGate: k.times, longGate: k.divide} {
			l := layout(rects, "")
			l.Tech.Sheet, l.Tech.Kp = k.v, k.v
			hasError(t, rects+" with "+strconv.Itoa(len(k.v))+" bytes", l, want)
		}
	}
	for _, set := range []func(l *api.PlLayout, v api.Val){func(l *api.PlLayout, v api.Val) { l.Tech.Area = v }, func(l *api.PlLayout, v api.Val) { l.Tech.Cross = v }} {
		l := layout("metal 0 0 10 1, top 0 0 10 1", "")
		set(&l, digits(999))
		hasError(t, "ten cells at 10^998", l, api.OK)
		set(&l, digits(1000))
		hasError(t, "ten cells at 10^999", l, api.ErrLong)
	}
	l := transistor()
	l.Tech.Vt = digits(1000)
	hasError(t, "a long Vt", l, api.OK)
}

// What is found in random layouts is what the test's own definition says.
func TestP9_3RandomLayouts(t *testing.T) {
	g := newNumbers()
	count, devices := map[api.Errno]int{}, 0
	for range 2500 {
		l := g.layout()
		if _, _, e := plan.Check(l); e != api.OK {
			continue
		}
		chart, e := chartOf(l)
		if e != api.OK {
			hasError(t, "a layout whose nodes are wrong", l, e)
			continue
		}
		want, e := chart.extracted()
		if len(want.Net.Models) > 8 || len(want.Net.Elems) > 60 {
			want, e = api.PlFound{}, api.ErrLong
		}
		count[e]++
		f, is := plan.Extract(l)
		if is != e || !sameFound(f, want) {
			t.Fatalf("Extract of %v = %v, %d, not %v, %d", l, f, is, want, e)
		}
		if e != api.OK {
			continue
		}
		devices += len(f.Devices)
		if part, at, e := net.Check(f.Net); e != api.OK { // P9.9
			t.Errorf("the net of %v: %d, %d, %d", l, part, at, e)
		}
	}
	if count[api.OK] < 500 || count[plan.ErrRule] < 50 || devices < 500 {
		t.Errorf("only %v, %d devices", count, devices)
	}
}
