package net_test

import (
	"slices"
	"strconv"
	"strings"
	"testing"

	"pentode/api"
	"pentode/net"
)

// laid looks at what a text is when it is laid out, line by line.
func laid(t *testing.T, text []string, want ...string) {
	t.Helper()
	if got := flat(t, text...); got != strings.Join(want, "\n") {
		t.Errorf("%q is laid out as\n%s", text, got)
	}
}

func TestP3_6Fields(t *testing.T) {
	f := read(t, "model k curve 0", "model q square 1k 1/2", "model j curve 1 -2 | { 1 / 2 } | 0 | 1 | -1 0 1",
		"r r1 a b 1", "c c1 a b 2", "l l1 a b 3", "v v1 a b 4", "i i1 a b 5", "e e1 a b c d 6", "g g1 d c b a 7", "f f1 a b h1 8", "h h1 a b h1 9",
		"d d1 a b j", "m m1 d g s q", "q q1 b a k", "s s1 a b on 10", "s s2 a b off 11")
	want := api.Net{Nodes: 6, Elems: []api.Elem{
		{Kind: api.ElR, A: 1, B: 2, Val: "1"},
		{Kind: api.ElC, A: 1, B: 2, Val: "2"},
		{Kind: api.ElL, A: 1, B: 2, Val: "3"},
		{Kind: api.ElV, A: 1, B: 2, Val: "4"},
		{Kind: api.ElI, A: 1, B: 2, Val: "5"},
		{Kind: api.ElE, A: 1, B: 2, C: 3, D: 4, Val: "6"},
		{Kind: api.ElG, A: 4, B: 3, C: 2, D: 1, Val: "7"},
		{Kind: api.ElF, A: 1, B: 2, Ref: 8, Val: "8"},
		{Kind: api.ElH, A: 1, B: 2, Ref: 8, Val: "9"},
		{Kind: api.ElD, A: 1, B: 2, Model: 2},
		{Kind: api.ElM, A: 4, B: 6, C: 5, Model: 1},
		{Kind: api.ElQ, A: 2, B: 1, Model: 0},
		{Kind: api.ElS, A: 1, B: 2, Ref: 1, Val: "10"},
		{Kind: api.ElS, A: 1, B: 2, Ref: 0, Val: "11"},
	}, Models: []api.Model{
		{Kind: api.MdCurve, Pieces: [][]api.Val{{"0"}}},
		{Kind: api.MdSquare, Kp: "1000", Vt: "1/2"},
		{Kind: api.MdCurve, Breaks: []api.Val{"1/2", "1"}, Pieces: [][]api.Val{{"1", "-2"}, {"0"}, {"-1", "0", "1"}}},
	}}
	if !net.Same(f.Net, want) {
		t.Errorf("net %v", f.Net)
	}
	if !slices.Equal(f.Nodes, []string{"a", "b", "c", "d", "g", "s"}) || !slices.Equal(f.Models, []string{"k", "q", "j"}) {
		t.Errorf("names %v, %v", f.Nodes, f.Models)
	}
	if !slices.Equal(f.Elems, strings.Fields("r1 c1 l1 v1 i1 e1 g1 f1 h1 d1 m1 q1 s1 s2")) {
		t.Errorf("names %v", f.Elems)
	}
}

func TestP3_6Instances(t *testing.T) {
	// nodes of an instance, its ports and the ground; an instance in an instance
	laid(t, []string{"sub s a b", "r r1 a m 1", "r r2 m b 2", "r r3 m 0 3", "ends", "sub t p", "x u p q s", "x v q 0 s", "c c1 q p 4", "ends", "x y 1 t", "v v1 1 0 5", "x z 1 0 s"},
		"r y.u.r1 1 y.u.m 1", "r y.u.r2 y.u.m y.q 2", "r y.u.r3 y.u.m 0 3", "r y.v.r1 y.q y.v.m 1", "r y.v.r2 y.v.m 0 2", "r y.v.r3 y.v.m 0 3", "c y.c1 y.q 1 4", "v v1 1 0 5", "r z.r1 1 z.m 1", "r z.r2 z.m 0 2", "r z.r3 z.m 0 3")
	// nodes with the same name are the same node, also one inside and one outside
	laid(t, []string{"r r1 x.m 0 1", "sub s a", "r r2 a m 2", "ends", "x x 1 s"}, "r r1 x.m 0 1", "r x.r2 1 x.m 2")
	// a port that is not used gives no node; a node 1 inside is not the one outside
	laid(t, []string{"sub s a b", "r r1 b 1 2", "ends", "x x far 1 s"}, "r x.r1 1 x.1 2")
	// a port hides a node, and the ground is no port
	laid(t, []string{"sub s in", "r r1 in out 2", "ends", "x x out s", "x y 0 s"}, "r x.r1 out x.out 2", "r y.r1 0 y.out 2")
	// the same node for two ports
	laid(t, []string{"sub s a b", "r r1 a b 2", "ends", "x x n n s"}, "r x.r1 n n 2")
	// an instance of nothing
	laid(t, []string{"sub s a", "ends", "x x n s", "r r1 1 0 1", "x y n s"}, "r r1 1 0 1")
	// subcircuits that no instance names give nothing
	laid(t, []string{"sub s a with k { 1 / 0 }", "r r1 a 0 { 1 / 0 }", "ends"}, "")
}

func TestP3_6Parameters(t *testing.T) {
	sub := []string{"sub s a with k 2 j { 3 * 4 }", "r r1 a 0 k", "r r2 a 0 { k * j }", "ends"}
	for with, want := range map[string][2]string{
		"": {"2", "24"}, " with k 5": {"5", "60"}, " with j 1/2": {"2", "1"}, " with j { 1 + 1 } k 1k": {"1000", "2000"},
	} {
		laid(t, append(slices.Clone(sub), "x x 1 s"+with), "r x.r1 1 0 "+want[0], "r x.r2 1 0 "+want[1])
	}
	// what an instance gives is evaluated where it stands, also if its own parameters have the same names
	outer := append(slices.Clone(sub), "sub t a with k 7 m 10", "x u a s with j k", "x v a s with j { k + m } k m", "r r3 a 0 k", "ends", "x y 1 t with m 100")
	laid(t, outer, "r y.u.r1 1 0 2", "r y.u.r2 1 0 14", "r y.v.r1 1 0 100", "r y.v.r2 1 0 10700", "r y.r3 1 0 7")
	// a parameter may have the name of a port, of a model, of an element and of a subcircuit
	laid(t, []string{"model k curve 0", "sub s a with a 1 k 2 r1 3 s 4", "r r1 a 0 { a + k + r1 + s }", "d d1 a 0 k", "ends", "x x 1 s"}, "model k curve 0", "r x.r1 1 0 10", "d x.d1 1 0 k")
}

func TestP3_6References(t *testing.T) {
	laid(t, []string{"f f1 1 0 v1 2", "v v1 1 0 3"}, "f f1 1 0 v1 2", "v v1 1 0 3")
	// in an instance it is the instance's own, also a later one, or one of an instance in it
	laid(t, []string{"sub s a", "v v1 a 0 1", "ends", "sub t a", "f f1 a 0 v1 2", "h h1 a b x.v1 3", "v v1 b 0 4", "x x b s", "ends", "x y 1 t", "f f1 1 0 y.x.v1 5", "f f2 1 0 y.v1 6"},
		"f y.f1 1 0 y.v1 2", "h y.h1 1 y.b y.x.v1 3", "v y.v1 y.b 0 4", "v y.x.v1 y.b 0 1", "f f1 1 0 y.x.v1 5", "f f2 1 0 y.v1 6")
	told(t, lines("f f1 1 0 v1 2"), 2, net.ErrName)
	told(t, lines("v v1 1 0 1", "sub s a", "f f1 a 0 v1 2", "ends", "x x 1 s"), 6, net.ErrName)
	told(t, lines("sub s a", "v v1 a 0 2", "ends", "x x 1 s", "h h1 1 0 v1 1"), 6, net.ErrName)
	told(t, lines("sub s a", "v v1 a 0 2", "ends", "x x 1 s", "h h1 1 0 x 1"), 6, net.ErrName)
	told(t, lines("f f1 1 0 x.v1 2", "v "+strings.Repeat("a", 40)+" 1 0 1", "h h1 1 0 "+strings.Repeat("a", 40)+" 1"), 4, net.ErrName)
	told(t, lines("f f1 1 0 f1 2"), 2, api.ErrRange)
	told(t, lines("h h1 1 0 h1 2"), 0, api.OK)
	told(t, lines("f f1 1 0 r1 2", "r r1 1 0 1"), 3, api.ErrRange)
	// a node, a model or a subcircuit is no element
	told(t, lines("model k curve 1", "sub s a", "ends", "f f1 a 0 k 2"), 5, net.ErrName)
	told(t, lines("f f1 a 0 a 2"), 2, net.ErrName)
}

func TestP3_6Numbering(t *testing.T) {
	// by the order of the lines' nodes: of a transistor the gate before the source
	f := read(t, "model q square 1 1", "sub s far near", "r r1 near own 1", "g g1 0 far own more 1", "ends", "m m1 d g s q", "x x g z s", "e e1 y d w 0 1")
	if want := strings.Fields("d g s z x.own x.more y w"); !slices.Equal(f.Nodes, want) {
		t.Errorf("nodes %v", f.Nodes)
	}
	if e := f.Net.Elems[0]; e.A != 1 || e.C != 2 || e.B != 3 {
		t.Errorf("transistor %v", e)
	}
}

// nest has a chain of subcircuits, s0 with an element and each of the others with an instance of the one before it, and an instance of the last one.
func nest(levels int) []string {
	list := []string{"sub s0 a", "r r a 0 1", "ends"}
	for i := 1; i < levels; i++ {
		list = append(list, "sub s"+strconv.Itoa(i)+" a", "x x a s"+strconv.Itoa(i-1), "ends")
	}
	return append(list, "x x 1 s"+strconv.Itoa(levels-1))
}

func TestP3_6Levels(t *testing.T) {
	laid(t, nest(8), "r x.x.x.x.x.x.x.x.r 1 0 1")
	told(t, lines(nest(9)...), 29, api.ErrLong)
	told(t, lines(nest(10)...), 32, api.ErrLong)
	// the level comes before the parameters
	list := nest(9)
	list[0] = "sub s0 a with k { 1 / 0 }"
	told(t, lines(list...), 29, api.ErrLong)
	list = nest(8)
	list[0] = "sub s0 a with k { 1 / 0 }"
	told(t, lines(list...), 26, api.ErrZero)
}

func TestP3_6NumberOfInstances(t *testing.T) {
	// each t has 9 instances, and is one itself
	list := append([]string{"sub s a", "ends", "sub t a"}, many(9, "x xN a s")...)
	list = append(list, "ends")
	twenty := append(slices.Clone(list), many(20, "x yN 1 t")...)
	told(t, lines(twenty...), 0, api.OK)
	told(t, lines(append(twenty, "x z 1 s")...), len(twenty)+2, api.ErrLong)
	told(t, lines(append(twenty, "r z 1 0 1")...), 0, api.OK)
	told(t, lines(append(twenty, "r r 1 0 { 1 / 0 }", "x z 1 s")...), len(twenty)+3, api.ErrZero)
	list[0] = "sub s a with k { 1 / 0 }"
	for i := range 9 {
		list[3+i] += " with k 1"
	}
	told(t, lines(append(slices.Concat(list, many(20, "x yN 1 t")), "x z 1 s")...), len(twenty)+2, api.ErrLong)
}

func TestP3_6NumberOfElements(t *testing.T) {
	list := append([]string{"sub s a"}, many(6, "r rN a 0 1")...)
	list = append(list, "ends")
	ten := append(list, many(10, "x xN 1 s")...)
	told(t, lines(ten...), 0, api.OK)
	long := strings.Repeat("n", 40)
	for _, last := range []string{"r r 1 0 1", "r x1.r1 1 0 1", "r r 1 0 { 1 / 0 }", "x " + long + " 1 s", "f f 1 0 v 1"} {
		told(t, lines(append(ten, last)...), len(ten)+2, api.ErrLong)
	}
	// what follows is not met
	told(t, lines(append(ten, "r r 1 0 1", "r q 1 0 { 1 / 0 }")...), len(ten)+3, api.ErrLong)
}

func TestP3_6LongNames(t *testing.T) {
	n39, n38 := strings.Repeat("n", 39), strings.Repeat("n", 38)
	sub := []string{"sub s a", "r r a 0 1", "ends"}
	laid(t, append(slices.Clone(sub), "x "+n38+" 1 s"), "r "+n38+".r 1 0 1")
	told(t, lines(append(sub, "x "+n39+" 1 s")...), 5, api.ErrLong)
	// of a node
	for _, c := range []struct {
		inst, node string
		e          api.Errno
	}{{n38, "b", api.OK}, {n38[2:], "bbb", api.OK}, {n38, "bb", api.ErrLong}, {"x", n38, api.OK}, {"x", n39, api.ErrLong}, {n38, "0", api.OK}, {n38, "a", api.OK}} {
		line := 0
		if c.e != api.OK {
			line = 5
		}
		told(t, lines("sub s a", "r r 0 "+c.node+" 1", "ends", "x "+c.inst+" 1 s"), line, c.e)
	}
	// the name comes before its nodes and value, and is looked at for elements alone
	told(t, lines("sub s a", "r r a 0 { 1 / 0 }", "ends", "x "+n39+" 1 s"), 5, api.ErrLong)
	told(t, lines("sub s a", "r r a "+n39+" { 1 / 0 }", "ends", "x "+n38+" 1 s"), 5, api.ErrLong)
	told(t, lines("sub s a", "ends", "sub t a", "x "+n39+" "+n39+" s", "ends", "x "+n39+" 1 t"), 0, api.OK)
	// a node of an instance that no element has may be long
	told(t, lines("sub s a", "ends", "sub t a", "x x "+n39+" s", "r r a 0 1", "ends", "x "+n38+" 1 t"), 0, api.OK)
	told(t, lines("sub s a", "r r a 0 1", "ends", "sub t a", "x x "+n39+" s", "ends", "x y 1 t"), 8, api.ErrLong)
}

func TestP3_6NumberOfNodes(t *testing.T) {
	list := many(19, "r rN nN 0 1")
	told(t, lines(append(list, "r r n19 0 1")...), 0, api.OK)
	told(t, lines(append(list, "r r n19 n20 1")...), 21, api.ErrLong)
	full := append(list, "r r n19 0 1")
	told(t, lines(append(full, "e e n0 0 n19 n7 1")...), 0, api.OK)
	told(t, lines(append(full, "e e n0 0 n19 n20 1")...), 22, api.ErrLong)
	told(t, lines(append(full, "e e n0 0 n19 n20 { 1 / 0 }")...), 22, api.ErrLong)
	told(t, lines(append(full, "r e n0 0 { 1 / 0 }", "r f n20 0 1")...), 23, api.ErrZero)
	told(t, lines(append(full, "f f n20 0 x 1")...), 22, api.ErrLong)
	told(t, lines(append(full, "sub s a b", "r r b 0 1", "ends", "x x n20 n3 s")...), 0, api.OK)
	told(t, lines(append(full, "sub s a b", "r r a 0 1", "ends", "x x n20 n3 s")...), 25, api.ErrLong)
}

func TestP3_6TwiceInTheLayout(t *testing.T) {
	sub := []string{"sub s a", "r r a 0 1", "ends"}
	told(t, lines(append(sub, "r x.r 1 0 1", "x x 1 s")...), 6, net.ErrTwice)
	told(t, lines(append(sub, "x x 1 s", "r x.r 1 0 1")...), 6, net.ErrTwice)
	told(t, lines(append(sub, "sub t a", "x b.c a s", "ends", "x a 1 t", "sub u a", "x c a s", "ends", "x a.b 1 u")...), 12, net.ErrTwice)
	told(t, lines(append(sub, "x x 1 s", "r x.r 1 0 { 1 / 0 }")...), 6, net.ErrTwice)
	told(t, lines(append(sub, "x x 1 s", "r x.r n"+strings.Repeat("n", 39)+" 0 1")...), 6, net.ErrTwice)
	told(t, lines(append(sub, "x x 1 s", "r q.r 1 0 1", "x q.r 1 s")...), 6, net.ErrTwice)
	// an instance and an element of another place may have the same name
	told(t, lines(append(sub, "sub t a", "x b a s", "ends", "x a 1 t", "r a.b 1 0 1")...), 0, api.OK)
}

func TestP3_6Evaluation(t *testing.T) {
	far := strings.Repeat("9", 400)
	long := "{ " + far + " * " + far + " * " + far + " }"
	zero := "{ 1 / 0 }"
	for _, c := range []struct {
		text []string
		e    api.Errno
	}{
		// models before elements, in the order of their lines
		{[]string{"r r 1 0 " + zero, "model k curve " + long}, api.ErrLong},
		{[]string{"model k curve " + zero, "model j curve " + long}, api.ErrZero},
		{[]string{"model k square " + long + " " + zero}, api.ErrLong},
		{[]string{"model k square " + zero + " " + long}, api.ErrZero},
		{[]string{"model k curve 0 " + zero + " | " + long + " | 0"}, api.ErrZero},
		{[]string{"model k curve 0 | " + long + " | " + zero}, api.ErrLong},
		{[]string{"model k curve 0 | " + zero + " | 1 " + long}, api.ErrZero},
		{[]string{"model k curve 0 | 1 | 0 " + long + " | " + zero + " | 0"}, api.ErrLong},
		// elements in the order of the layout
		{[]string{"r r 1 0 " + zero, "r s 1 0 " + long}, api.ErrZero},
		{[]string{"r r 1 0 " + long, "r s 1 0 " + zero}, api.ErrLong},
		{[]string{"sub s a", "r r a 0 " + zero, "ends", "x x 1 s", "r s 1 0 " + long}, api.ErrZero},
		{[]string{"sub s a", "r r a 0 " + zero, "ends", "r s 1 0 " + long, "x x 1 s"}, api.ErrLong},
		// parameters in the order of the line sub, before the elements; not those of the instance that it has given
		{[]string{"sub s a with k 1 j 2", "r r a 0 " + zero, "ends", "x x 1 s with j " + zero + " k " + long}, api.ErrLong},
		{[]string{"sub s a with k 1 j 2", "ends", "x x 1 s with k " + zero + " j " + long}, api.ErrZero},
		{[]string{"sub s a with k " + zero + " j " + long, "ends", "x x 1 s with k 1"}, api.ErrLong},
		{[]string{"sub s a with k " + zero + " j " + long, "ends", "x x 1 s with j 1"}, api.ErrZero},
		{[]string{"sub s a with k " + zero, "ends", "x x 1 s with k 1"}, api.OK},
		{[]string{"sub s a with k 0", "r r a 0 { 1 / k }", "ends", "x x 1 s"}, api.ErrZero},
		{[]string{"sub s a with k 0", "r r a 0 { 1 / k }", "ends", "x x 1 s with k 2"}, api.OK},
		// all of it before what is referred to, and this before the net's own errors
		{[]string{"f f 1 0 v 1", "r r 1 0 " + zero}, api.ErrZero},
		{[]string{"f f 1 0 v 1", "r r 1 0 0"}, net.ErrName},
		{[]string{"model k curve 0 | 1 | 1", "f f 1 0 v 1"}, net.ErrName},
		{[]string{"model k curve 0 | 1 | 1", "r r 1 0 0"}, api.ErrForm},
	} {
		line := 0
		if c.e != api.OK {
			line = len(c.text) + 1
		}
		told(t, lines(c.text...), line, c.e)
	}
}

// The error of Check comes last: the first one in its order.
func TestP3_6NetsThatAreNotValid(t *testing.T) {
	for _, c := range []struct {
		text string
		e    api.Errno
	}{
		{"model k curve 0 0 0 0 0", api.ErrLong},
		{"model k curve 0" + strings.Repeat(" | 1 | 0", 6), api.ErrLong},
		{"model k curve 0 | 1 | 0 | 1 | 0", api.ErrForm},
		{"model k curve 0 | 2 | 0 | 1 | 0", api.ErrForm},
		{"model k curve 0 | 2 | 1", api.ErrForm},
		{"model k square 0 1", api.ErrRange},
		{"model k square { 1 - 2 } 1", api.ErrRange},
		{"r r 1 0 0", api.ErrRange},
		{"c r 1 0 -1", api.ErrRange},
		{"l r 1 0 { 1 - 1 }", api.ErrRange},
		{"s r 1 0 off 0", api.ErrRange},
	} {
		told(t, lines("", c.text), 3, c.e)
	}
}
