package symbol_test

import (
	"strings"
	"testing"

	"pentode/api"
	"pentode/net"
	"pentode/points"
	"pentode/poly"
	"pentode/symbol"
	"pentode/value"
)

// showMatrix writes a matrix of polynomials: its entries are separated by |, its rows by /.
func showMatrix(m [][][]api.SyTerm) string {
	var rows []string
	for _, row := range m {
		var entries []string
		for _, p := range row {
			entries = append(entries, text(p))
		}
		rows = append(rows, strings.Join(entries, "|"))
	}
	return strings.Join(rows, " / ")
}

// Each kind of elements, with its number and with a symbol, in a net of three nodes.
func TestP5_3Kinds(t *testing.T) {
	for _, c := range []struct {
		e                 api.Elem
		numeric, symbolic string
	}{
		{api.Elem{Kind: api.ElR, A: 1, B: 2, Val: "4"}, "1/4 0|-1/4 0| / -1/4 0|1/4 0| / ||", "1 0 1|-1 0 1| / -1 0 1|1 0 1| / ||"},
		{api.Elem{Kind: api.ElR, A: 0, B: 2, Val: "4"}, "|| / |1/4 0| / ||", "|| / |1 0 1| / ||"},
		{api.Elem{Kind: api.ElR, A: 1, B: 1, Val: "4"}, "|| / || / ||", "|| / || / ||"},
		{api.Elem{Kind: api.ElS, A: 1, B: 2, Ref: 1, Val: "4"}, "1/4 0|-1/4 0| / -1/4 0|1/4 0| / ||", "1 0 1|-1 0 1| / -1 0 1|1 0 1| / ||"},
		{api.Elem{Kind: api.ElC, A: 1, B: 2, Val: "4"}, "4 1|-4 1| / -4 1|4 1| / ||", "1 1 1|-1 1 1| / -1 1 1|1 1 1| / ||"},
		{api.Elem{Kind: api.ElG, A: 1, B: 2, C: 3, D: 1, Val: "4"}, "-4 0||4 0 / 4 0||-4 0 / ||", "-1 0 1||1 0 1 / 1 0 1||-1 0 1 / ||"},
		{api.Elem{Kind: api.ElG, A: 1, B: 2, C: 0, D: 1, Val: "4"}, "-4 0|| / 4 0|| / ||", "-1 0 1|| / 1 0 1|| / ||"},
		{api.Elem{Kind: api.ElG, A: 1, B: 2, C: 3, D: 3, Val: "4"}, "|| / || / ||", "|| / || / ||"},
		{
			api.Elem{Kind: api.ElL, A: 1, B: 2, Val: "4"},
			"|||1 0 / |||-1 0 / ||| / 1 0|-1 0||-4 1", "|||1 0 0 / |||-1 0 0 / ||| / 1 0 0|-1 0 0||-1 1 1",
		},
		{
			api.Elem{Kind: api.ElE, A: 1, B: 2, C: 3, Val: "4"},
			"|||1 0 / |||-1 0 / ||| / 1 0|-1 0|-4 0|", "|||1 0 0 / |||-1 0 0 / ||| / 1 0 0|-1 0 0|-1 0 1|",
		},
		{
			api.Elem{Kind: api.ElE, A: 1, B: 2, C: 1, D: 3, Val: "4"},
			"|||1 0 / |||-1 0 / ||| / -3 0|-1 0|4 0|", "|||1 0 0 / |||-1 0 0 / ||| / 1 0 0, -1 0 1|-1 0 0|1 0 1|",
		},
		{
			api.Elem{Kind: api.ElH, A: 1, B: 2, Ref: 0, Val: "4"},
			"|||1 0 / |||-1 0 / ||| / 1 0|-1 0||-4 0", "|||1 0 0 / |||-1 0 0 / ||| / 1 0 0|-1 0 0||-1 0 1",
		},
	} {
		task := api.SyTask{Net: api.Net{Nodes: 3, Elems: []api.Elem{c.e, {Kind: api.ElI, A: 1, B: 3, Val: "7"}}}, In: 1}
		if m, right, e := symbol.Matrix(task); showMatrix(m) != c.numeric || !strings.HasPrefix(show(right), "-1 0 1") || e != api.OK {
			t.Errorf("%v: Matrix = %s, %s, %d", c.e, showMatrix(m), show(right), e)
		}
		task.Syms = []int{0}
		if m, _, e := symbol.Matrix(task); showMatrix(m) != c.symbolic || e != api.OK {
			t.Errorf("%v: Matrix with a symbol = %s, %d", c.e, showMatrix(m), e)
		}
	}
}

// Elements that refer to the current of another one, and those that give nothing.
func TestP5_3Refs(t *testing.T) {
	n := api.Net{Nodes: 2, Elems: []api.Elem{
		{Kind: api.ElV, A: 1, Val: "5"}, {Kind: api.ElL, A: 2, Val: "3"}, {Kind: api.ElF, A: 1, B: 2, Ref: 1, Val: "4"},
		{Kind: api.ElH, A: 2, Ref: 0, Val: "6"}, {Kind: api.ElS, A: 1, B: 2, Val: "7"}, {Kind: api.ElI, A: 1, B: 2, Val: "8"},
	}}
	m, right, e := symbol.Matrix(api.SyTask{Net: n, Syms: []int{3, 2}, In: 0})
	want := "||1 0 0 0|1 0 0 1| / |||1 0 0 0, -1 0 0 1|1 0 0 0" + // the nodes
		" / 1 0 0 0|||| / |1 0 0 0||-3 1 0 0| / |1 0 0 0|-1 0 1 0||" // the source, the inductor, the element ElH
	if showMatrix(m) != want || show(right) != "0 0 1 0 0" || e != api.OK {
		t.Errorf("Matrix = %s, %s, %d", showMatrix(m), show(right), e)
	}
}

func TestP5_3Right(t *testing.T) {
	for _, c := range []struct {
		a, b int
		want string
	}{{1, 2, "-1 1 0"}, {2, 1, "1 -1 0"}, {0, 2, "0 1 0"}, {1, 0, "-1 0 0"}, {1, 1, "0 0 0"}, {0, 0, "0 0 0"}} {
		n := api.Net{Nodes: 2, Elems: []api.Elem{{Kind: api.ElI, A: c.a, B: c.b, Val: "0"}, {Kind: api.ElV, A: 1, B: 2, Val: "9"}}}
		if _, right, e := symbol.Matrix(api.SyTask{Net: n}); show(right) != c.want || e != api.OK {
			t.Errorf("from %d to %d: %s, %d", c.a, c.b, show(right), e)
		}
		if _, right, e := symbol.Matrix(api.SyTask{Net: n, In: 1}); show(right) != "0 0 1" || e != api.OK {
			t.Errorf("of the source of voltage: %s, %d", show(right), e)
		}
	}
}

func TestP5_3Definitions(t *testing.T) {
	g := newNumbers()
	singular := 0
	for range 400 {
		task := g.task(6, 4)
		l := lawOf(task)
		vars := 1 + len(task.Syms)
		m, right, e := symbol.Matrix(task)
		var rows []string
		for _, row := range l.matrix() {
			var entries []string
			for _, f := range row {
				entries = append(entries, f.text(vars))
			}
			rows = append(rows, strings.Join(entries, "|"))
		}
		if showMatrix(m) != strings.Join(rows, " / ") || e != api.OK {
			t.Fatalf("%v: Matrix = %s, %d, not %s", task, showMatrix(m), e, strings.Join(rows, " / "))
		}
		for i, x := range l.right() {
			if len(right) != l.size() || string(value.Text(right[i])) != x.RatString() {
				t.Fatalf("%v: right %s, not %v", task, show(right), l.right())
			}
		}
		n, d := l.transfer()
		num, den, e := symbol.Transfer(task)
		if len(d.keys()) == 0 {
			singular++
			if e != api.ErrSingular || num != nil || den != nil {
				t.Fatalf("%v: Transfer = %s, %s, %d", task, text(num), text(den), e)
			}
		} else if text(num) != n.text(vars) || text(den) != d.text(vars) || e != api.OK {
			t.Fatalf("%v: Transfer = %s, %s, %d, not %s, %s", task, text(num), text(den), e, n.text(vars), d.text(vars))
		}
		l.Syms = nil
		n, d = l.transfer()
		p, q, e := symbol.Ratio(task)
		if len(d.keys()) == 0 {
			if e != api.ErrSingular || p != nil || q != nil {
				t.Fatalf("%v: Ratio = %s, %s, %d", task, show(p), show(q), e)
			}
		} else if show(p) != n.list() || show(q) != d.list() || e != api.OK {
			t.Fatalf("%v: Ratio = %s, %s, %d, not %s, %s", task, show(p), show(q), e, n.list(), d.list())
		}
	}
	if singular < 50 || singular > 350 {
		t.Errorf("%d singular tasks", singular)
	}
}

// The values of the elements may make the denominator 0, when symbols do not.
func TestP5_3SingularForItsValues(t *testing.T) {
	task := api.SyTask{Net: read(t, "i i1 0 1 1; r r1 1 0 2; g g1 1 0 1 0 -1/2"), Syms: []int{1}}
	if num, den, e := symbol.Transfer(task); text(num) != "1 0 0" || text(den) != "-1/2 0 0, 1 0 1" || e != api.OK {
		t.Errorf("Transfer = %s, %s, %d", text(num), text(den), e)
	}
	if num, den, e := symbol.Ratio(task); num != nil || den != nil || e != api.ErrSingular {
		t.Errorf("Ratio = %s, %s, %d", show(num), show(den), e)
	}
	task.Syms = nil
	if num, den, e := symbol.Transfer(task); num != nil || den != nil || e != api.ErrSingular {
		t.Errorf("Transfer without symbols = %s, %s, %d", text(num), text(den), e)
	}
	// Nothing comes through: the numerator is 0.
	task = api.SyTask{Net: read(t, "v v1 1 0 1; r r1 2 0 2; r r2 1 0 1"), Out: 1, Syms: []int{1}}
	task.Net.Elems[1].A = 2
	if num, den, e := symbol.Transfer(task); len(num) != 0 || text(den) != "-1 0 1" || e != api.OK {
		t.Errorf("Transfer = %s, %s, %d", text(num), text(den), e)
	}
	if num, den, e := symbol.Ratio(task); len(num) != 0 || show(den) != "-1/2" || e != api.OK {
		t.Errorf("Ratio = %s, %s, %d", show(num), show(den), e)
	}
}

func TestP5_3Errors(t *testing.T) {
	base := api.Net{Nodes: 2, Elems: []api.Elem{
		{Kind: api.ElV, A: 1, Val: "1"}, {Kind: api.ElI, A: 1, Val: "1"}, {Kind: api.ElS, A: 1, Val: "1"}, {Kind: api.ElS, A: 1, B: 2, Ref: 1, Val: "1"},
		{Kind: api.ElR, A: 2, Val: "1"}, {Kind: api.ElC, A: 2, Val: "1"}, {Kind: api.ElL, A: 2, Val: "1"}, {Kind: api.ElE, A: 2, Val: "1"},
		{Kind: api.ElG, A: 2, Val: "1"}, {Kind: api.ElF, A: 2, Val: "1"}, {Kind: api.ElH, A: 2, Val: "1"},
	}}
	bad := api.Net{Nodes: 2, Elems: []api.Elem{{Kind: api.ElR, A: 1, Val: "0"}}}
	curve := []api.Model{{Kind: api.MdCurve, Pieces: [][]api.Val{{"0", "1"}}}, {Kind: api.MdSquare, Kp: "1", Vt: "0"}}
	with := func(nodes int, e api.Elem) api.Net {
		return api.Net{Nodes: nodes, Elems: []api.Elem{{Kind: api.ElV, A: 1, Val: "1"}, e}, Models: curve}
	}
	for _, c := range []struct {
		name string
		task api.SyTask
		want api.Errno
	}{
		{"good", api.SyTask{Net: base}, api.OK},
		{"all other kinds", api.SyTask{Net: base, Syms: []int{10, 9, 8, 7, 6, 5}}, api.OK},
		{"a closed switch", api.SyTask{Net: base, Syms: []int{3, 4}}, api.OK},
		{"no net", api.SyTask{}, api.ErrRange},
		{"not valid", api.SyTask{Net: bad, Syms: make([]int, 9), In: -1}, api.ErrRange},
		{"not valid either", api.SyTask{Net: with(20, api.Elem{Kind: api.ElD, A: 1, Model: 2})}, api.ErrRange},
		{"ElD", api.SyTask{Net: with(2, api.Elem{Kind: api.ElD, A: 1})}, api.ErrForm},
		{"ElQ", api.SyTask{Net: with(2, api.Elem{Kind: api.ElQ, A: 1})}, api.ErrForm},
		{"ElM, and too many unknowns", api.SyTask{Net: with(20, api.Elem{Kind: api.ElM, A: 1, Model: 1}), In: -1}, api.ErrForm},
		{"models alone", api.SyTask{Net: with(2, api.Elem{Kind: api.ElR, A: 1, Val: "1"})}, api.OK},
		{"12 unknowns", api.SyTask{Net: with(11, api.Elem{Kind: api.ElR, A: 1, Val: "1"}), Out: 11}, api.OK},
		{"13 unknowns", api.SyTask{Net: with(12, api.Elem{Kind: api.ElR, A: 1, Val: "1"}), Syms: []int{99}}, api.ErrLong},
		{"7 symbols", api.SyTask{Net: base, Syms: []int{4, 5, 6, 7, 8, 9, 10}, In: -1}, api.ErrLong},
		{"7 that are wrong", api.SyTask{Net: base, Syms: []int{-1, 5, 6, 7, 8, 9, 10}}, api.ErrLong},
		{"no element", api.SyTask{Net: base, Syms: []int{4, 11}, In: -1}, api.ErrRange},
		{"a negative one", api.SyTask{Net: base, Syms: []int{-1}}, api.ErrRange},
		{"ElV", api.SyTask{Net: base, Syms: []int{0}}, api.ErrRange},
		{"ElI", api.SyTask{Net: base, Syms: []int{1}}, api.ErrRange},
		{"an open switch", api.SyTask{Net: base, Syms: []int{2}}, api.ErrRange},
		{"twice", api.SyTask{Net: base, Syms: []int{4, 5, 4}, In: -1}, api.ErrArg},
		{"one that must not be there twice", api.SyTask{Net: base, Syms: []int{0, 0}}, api.ErrRange},
		{"one twice, then none", api.SyTask{Net: base, Syms: []int{4, 4, 99}}, api.ErrArg},
		{"none, then one twice", api.SyTask{Net: base, Syms: []int{99, 4, 4}}, api.ErrRange},
		{"In is none", api.SyTask{Net: base, In: 11}, api.ErrRange},
		{"In is negative", api.SyTask{Net: base, In: -1}, api.ErrRange},
		{"In is ElE", api.SyTask{Net: base, In: 7}, api.ErrRange},
		{"In is ElI", api.SyTask{Net: base, In: 1}, api.OK},
		{"Out is the last one", api.SyTask{Net: base, Out: 5}, api.OK},
		{"Out is none", api.SyTask{Net: base, Out: 6}, api.ErrRange},
		{"Out is negative", api.SyTask{Net: base, Out: -1}, api.ErrRange},
	} {
		m, right, e := symbol.Matrix(c.task)
		if e != c.want || e != api.OK && (m != nil || right != nil) {
			t.Errorf("%s: Matrix = %s, %s, %d", c.name, showMatrix(m), show(right), e)
		}
		n, d, e := symbol.Transfer(c.task)
		if e != c.want && (c.want != api.OK || e != api.ErrSingular) || e != api.OK && (n != nil || d != nil) {
			t.Errorf("%s: Transfer = %s, %s, %d", c.name, text(n), text(d), e)
		}
		p, q, e := symbol.Ratio(c.task)
		if e != c.want && (c.want != api.OK || e != api.ErrSingular) || e != api.OK && (p != nil || q != nil) {
			t.Errorf("%s: Ratio = %s, %s, %d", c.name, show(p), show(q), e)
		}
	}
}

// An entry may be too long when the transfer function is not, and the other way round; Ratio has no limit of digits.
func TestP5_3TooLong(t *testing.T) {
	for _, c := range []struct {
		name, lines             string
		out                     int
		matrix, transfer, ratio api.Errno
	}{
		{"one long number", "i i1 0 1 1; r r1 1 0 2", 0, api.OK, api.OK, api.OK},
		{"a sum of conductances", "i i1 0 1 1; r r1 1 0 2; r r2 1 0 3", 0, api.ErrLong, api.ErrLong, api.OK},
		{"their product", "i i1 0 1 1; r r1 1 0 2; r r2 2 0 3", 0, api.OK, api.ErrLong, api.OK},
		{"a sum that does not come up", "v v1 1 0 1; r r1 1 0 2; r r2 1 0 3", 0, api.ErrLong, api.OK, api.OK},
		{"the numerator alone", "v v1 1 0 1; r r1 1 0 2; r r2 1 0 3", 1, api.ErrLong, api.ErrLong, api.OK},
		{"too long, and singular", "i i1 0 1 1; r r1 1 0 2; r r2 1 0 3; r r3 2 2 1", 0, api.ErrLong, api.ErrSingular, api.ErrSingular},
	} {
		n := read(t, c.lines)
		for i, e := range n.Elems {
			switch e.Val {
			case "2":
				n.Elems[i].Val = digits(1000)
			case "3":
				n.Elems[i].Val = api.Val(strings.Repeat("9", 999))
			}
		}
		task := api.SyTask{Net: n, Out: c.out}
		if m, right, e := symbol.Matrix(task); e != c.matrix || e != api.OK && (m != nil || right != nil) {
			t.Errorf("%s: Matrix = %d", c.name, e)
		}
		if p, q, e := symbol.Transfer(task); e != c.transfer || e != api.OK && (p != nil || q != nil) {
			t.Errorf("%s: Transfer = %.99s, %.99s, %d", c.name, text(p), text(q), e)
		}
		p, q, e := symbol.Ratio(task)
		if e != c.ratio {
			t.Errorf("%s: Ratio = %.99s, %.99s, %d", c.name, show(p), show(q), e)
		}
		if want, _ := points.Char(n); show(q) != show(want) {
			t.Errorf("%s: the denominator of Ratio is not that of Char", c.name)
		}
	}
}

// direct is a net for direct current whose operating point is that of a task for some numbers: s, and those of the symbols, none
// of which is 0. An inductor is as an element whose voltage its own current controls; a capacitor is a resistor.
func direct(task api.SyTask, x []value.Num) api.Net {
	n := api.Net{Nodes: task.Net.Nodes}
	inverse := func(x value.Num) value.Num {
		y, _ := value.Div(value.Int(1), x)
		return y
	}
	for i, e := range task.Net.Elems {
		val, _ := value.Parse(e.Val)
		for k, elem := range task.Syms {
			if elem == i {
				val = x[1+k]
				if e.Kind == api.ElR || e.Kind == api.ElS {
					val = inverse(val)
				}
			}
		}
		switch e.Kind {
		case api.ElC:
			e.Kind, val = api.ElR, inverse(value.Mul(x[0], val))
		case api.ElL:
			e.Kind, e.Ref, val = api.ElH, i, value.Mul(x[0], val)
		case api.ElV, api.ElI:
			val = value.Int(0)
			if i == task.In {
				val = value.Int(1)
			}
		}
		e.Val = value.Text(val)
		n.Elems = append(n.Elems, e)
	}
	return n
}

// T3: the quotient is the unknown of the only solution.
func TestP5_9(t *testing.T) {
	g := newNumbers()
	some, zeros := 0, 0
	for range 400 {
		task := g.task(7, 6)
		num, den, e := symbol.Transfer(task)
		if e == api.ErrSingular {
			continue
		}
		if e != api.OK {
			t.Fatalf("%v: Transfer = %d", task, e)
		}
		x := make([]value.Num, 1+len(task.Syms))
		for i := range x {
			x[i] = g.above()
		}
		n, _ := symbol.Eval(num, x)
		d, _ := symbol.Eval(den, x)
		net := direct(task, x)
		at, e := points.Exact(net)
		if value.Sign(d) == 0 {
			zeros++
			if e != api.ErrSingular {
				t.Fatalf("%v at %s: the denominator is 0, Exact = %d", task, show(x), e)
			}
			continue
		}
		some++
		want, _ := value.Div(n, d)
		if e != api.OK || len(at) != 1 || value.Cmp(at[0][task.Out], want) != 0 {
			t.Fatalf("%v at %s: the quotient is %s, Exact = %v, %d", task, show(x), value.Text(want), at, e)
		}
	}
	if some < 100 {
		t.Errorf("%d tasks with an operating point, %d without one", some, zeros)
	}
}

// Also the unknowns of nets with 12 of them, of which all are looked at.
func TestP5_9Twelve(t *testing.T) {
	task := api.SyTask{Net: api.Net{Nodes: 9, Elems: []api.Elem{{Kind: api.ElV, A: 1, Val: "5"}}}, Syms: []int{1, 2, 4, 5, 13}}
	for node := 2; node <= 9; node++ {
		task.Net.Elems = append(task.Net.Elems, api.Elem{Kind: api.ElR, A: node - 1, B: node, Val: value.Text(value.Int(int64(node)))},
			api.Elem{Kind: api.ElC, A: node, Val: value.Text(value.Int(int64(12 - node)))})
	}
	task.Net.Elems = append(task.Net.Elems, api.Elem{Kind: api.ElL, A: 9, Val: "2"}, api.Elem{Kind: api.ElE, A: 5, B: 3, C: 8, Val: "3"})
	x := nums(t, "1/2 3 1/3 2 5 1")
	at, e := points.Exact(direct(task, x))
	if e != api.OK || len(at) != 1 || len(at[0]) != 12 {
		t.Fatalf("Exact = %d points, %d", len(at), e)
	}
	for out := range 12 {
		task.Out = out
		num, den, e := symbol.Transfer(task)
		n, _ := symbol.Eval(num, x)
		d, _ := symbol.Eval(den, x)
		quotient, _ := value.Div(n, d)
		if e != api.OK || value.Cmp(quotient, at[0][out]) != 0 {
			t.Errorf("unknown %d: %s, not %s; %d", out, value.Text(quotient), value.Text(at[0][out]), e)
		}
	}
}

// As many unknowns, elements and symbols as there may be.
func TestP5_9Dense(t *testing.T) {
	g := newNumbers()
	n := g.net(12, 47, api.ElR, api.ElC, api.ElG)
	n.Elems = append(n.Elems, g.tree(12)...)
	n.Elems = append(n.Elems, api.Elem{Kind: api.ElI, A: 12, B: 1, Val: "1"})
	task := api.SyTask{Net: n, Syms: []int{0, 10, 20, 30, 40, 50}, In: 59, Out: 11}
	num, den, e := symbol.Transfer(task)
	if e != api.OK || len(num) < 100 || len(den) < 100 {
		t.Fatalf("Transfer = %d, %d terms, %d", len(num), len(den), e)
	}
	x := nums(t, "1/3 2 1/5 3 1 1/2 4")
	a, _ := symbol.Eval(num, x)
	b, _ := symbol.Eval(den, x)
	quotient, _ := value.Div(a, b)
	at, e := points.Exact(direct(task, x))
	if e != api.OK || len(at) != 1 || value.Cmp(at[0][11], quotient) != 0 {
		t.Errorf("the quotient is %s, Exact = %d points, %d", value.Text(quotient), len(at), e)
	}
}

func TestP5_10(t *testing.T) {
	g := newNumbers()
	some := 0
	for range 300 {
		task := g.task(7, 6)
		num, den, e := symbol.Transfer(task)
		if e == api.OK {
			some++
		}
		for _, p := range [][]api.SyTerm{num, den} {
			for _, term := range p {
				for _, n := range term.Pows[1:] {
					if n > 1 {
						t.Fatalf("%v: %s", task, text(p))
					}
				}
			}
		}
		want, _ := points.Char(task.Net)
		_, q, e := symbol.Ratio(task)
		if e == api.OK && show(q) != show(want) || (e == api.ErrSingular) != (poly.Deg(want) < 0) {
			t.Fatalf("%v: the denominator of Ratio is %s, %d, Char is %s", task, show(q), e, show(want))
		}
		// Transfer at the values of the net is Ratio.
		if e == api.OK {
			at := []value.Num{g.above()}
			for _, elem := range task.Syms {
				at = append(at, standing(task.Net.Elems[elem]))
			}
			d, _ := symbol.Eval(den, at)
			if value.Cmp(d, poly.Eval(q, at[0])) != 0 {
				t.Fatalf("%v: Transfer and Ratio differ at %s", task, show(at))
			}
		}
	}
	if some < 100 {
		t.Errorf("%d tasks", some)
	}
}

// standing is what the variable of an element stands for.
func standing(e api.Elem) value.Num {
	x, _ := value.Parse(e.Val)
	if e.Kind == api.ElR || e.Kind == api.ElS {
		x, _ = value.Div(value.Int(1), x)
	}
	return x
}

func TestP5_4Sense(t *testing.T) {
	g := newNumbers()
	for range 300 {
		vars := 1 + g.below(4)
		p, q, v := g.terms(g.below(8), vars, 5), g.terms(g.below(8), vars, 5), g.below(vars)
		n, d := formOf(p), formOf(q)
		top, bottom, e := symbol.Sense(p, q, vars, v)
		if len(n.keys()) == 0 || len(d.keys()) == 0 {
			if e != api.ErrZero || top != nil || bottom != nil {
				t.Fatalf("Sense(%s, %s, %d) = %s, %s, %d", text(p), text(q), v, text(top), text(bottom), e)
			}
			continue
		}
		want := variable(v).times(n.slope(v).times(d).minus(n.times(d.slope(v))))
		if text(top) != want.text(vars) || text(bottom) != n.times(d).text(vars) || e != api.OK {
			t.Fatalf("Sense(%s, %s, %d) = %s, %s, %d", text(p), text(q), v, text(top), text(bottom), e)
		}
	}
}

func TestP5_4Errors(t *testing.T) {
	long := string(digits(1000))
	for _, c := range []struct {
		num, den string
		v        int
		want     api.Errno
	}{
		{"1 1 0", "1 0 1", 0, api.OK}, {"1 1 0", "1 0 1", 1, api.OK}, {"1 1 0", "1 0 1", 2, api.ErrRange}, {"1 1 0", "1 0 1", -1, api.ErrRange},
		{"", "1 0 1", 0, api.ErrZero}, {"1 1 0", "", 0, api.ErrZero}, {"1 1 0, -1 1 0", "1 0 1", 0, api.ErrZero}, {"", "", 2, api.ErrRange},
		{"1 40 0", "1 0 0", 0, api.OK}, {"1 40 0", "1 0 40", 0, api.OK}, {"1 40 0", "1 1 0", 1, api.ErrLong}, {"1 20 0", "1 20 0", 0, api.OK},
		{long + " 0 0", "1 0 0", 0, api.OK}, {long + " 0 0", "10 0 0", 0, api.ErrLong},
		// x (N' D - N D') is too long, N D is not
		{long + " 10 0", "1 0 0", 0, api.ErrLong}, {long + " 9 0", "1 0 0", 0, api.OK}, {long + " 10 0", "1 0 0", 1, api.OK},
	} {
		top, bottom, e := symbol.Sense(terms(c.num), terms(c.den), 2, c.v)
		if e != c.want || e != api.OK && (top != nil || bottom != nil) {
			t.Errorf("Sense(%.30s, %.30s, %d) = %.30s, %.30s, %d", c.num, c.den, c.v, text(top), text(bottom), e)
		}
	}
	// A product of 41 times 50 terms.
	var p, q []api.SyTerm
	for i := range 41 {
		p = append(p, api.SyTerm{Coef: "1", Pows: []int{i, 0, 0}})
	}
	for i := range 50 {
		q = append(q, api.SyTerm{Coef: "1", Pows: []int{0, i % 10, i / 10}})
	}
	if top, bottom, e := symbol.Sense(p, q, 3, 0); top != nil || bottom != nil || e != api.ErrLong {
		t.Errorf("Sense = %d, %d, %d", len(top), len(bottom), e)
	}
	if top, bottom, e := symbol.Sense(p[:40], q, 3, 0); len(top) != 1950 || len(bottom) != 2000 || e != api.OK {
		t.Errorf("Sense = %d, %d, %d", len(top), len(bottom), e)
	}
}

// The quotient is how much the transfer function changes, relatively, with its variable: seen at two numbers for it, as
// both numerator and denominator are linear in it.
func TestP5_4Meaning(t *testing.T) {
	a, b, _ := symbol.Transfer(divider(t))
	top, bottom, _ := symbol.Sense(a, b, 3, 1)
	at := nums(t, "2 1/3 5")
	x, _ := symbol.Eval(top, at)
	y, _ := symbol.Eval(bottom, at)
	got, _ := value.Div(x, y)
	// g / (g + s c): the derivative by g, times g, divided by it, is s c / (g + s c) = 10 / (1/3 + 10)
	if string(value.Text(got)) != "30/31" {
		t.Errorf("the sensitivity is %s", value.Text(got))
	}
}

// A net that is valid stays one with other numbers: With does not change what a task is.
func TestP5_3OtherValues(t *testing.T) {
	task := divider(t)
	a, b, _ := symbol.Transfer(task)
	for elem, v := range []api.Val{"-7", "1/9", "8"} {
		n, e := net.With(task.Net, elem, v)
		if e != api.OK {
			t.Fatal(e)
		}
		p, q, e := symbol.Transfer(api.SyTask{Net: n, Syms: task.Syms, In: task.In, Out: task.Out})
		if text(p) != text(a) || text(q) != text(b) || e != api.OK {
			t.Errorf("with %s for %d: %s, %s, %d", v, elem, text(p), text(q), e)
		}
	}
}
