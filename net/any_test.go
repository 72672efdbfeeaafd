package net_test

import (
	"fmt"
	"math"
	"strings"
	"sync"
	"testing"

	"pentode/api"
	"pentode/net"
	"pentode/value"
)

// answers are all results for some arguments, as one text.
func answers(f api.NtFile, other api.Net, elem int, v api.Val, text string) string {
	var all []any
	add := func(l ...any) { all = append(all, l...) }
	n := f.Net
	add(net.Check(n))
	add(net.Unknowns(n))
	add(net.Same(n, other), net.Same(other, n))
	add(net.With(n, elem, v))
	add(net.Incidence(n))
	add(net.Cycles(n))
	add(net.Loop(n, true))
	add(net.Loop(n, false))
	add(net.Cut(n, true))
	add(net.Cut(n, false))
	add(net.Order(f))
	add(net.Print(f))
	add(net.Parse(text))
	g, _ := value.Ratio(7, 2)
	far, _ := value.Pow(value.Int(10), 64)
	for _, m := range n.Models {
		for _, x := range []value.Num{{}, value.Int(-3), g, far} {
			y, e := net.Law(m, g, x)
			add(value.Text(y), e)
		}
	}
	return fmt.Sprint(all...)
}

// anyFiles are files of many kinds, most of them not valid.
func anyFiles() []api.NtFile {
	far := []int{0, 1, -1, 13, 14, 99, math.MaxInt, math.MinInt}
	vals := []api.Val{"", "1", "0", "-1/2", "x", "1/0", "\xff", digits(1000), digits(1001), digits(20000)}
	g := newNumbers()
	list := []api.NtFile{{}, {Net: each()}, {Nodes: []string{"a"}}, {Net: api.Net{Elems: make([]api.Elem, 3000), Models: make([]api.Model, 3000)}}}
	for i := range 40 {
		f := g.file(i%21, i)
		list = append(list, f)
		for range 10 {
			w := copiedFile(f)
			w.Net.Elems = append(w.Net.Elems, api.Elem{})
			e := &w.Net.Elems[g.below(len(w.Net.Elems))]
			m := &w.Net.Models[g.below(3)]
			*[]*int{&w.Net.Nodes, &e.Kind, &e.A, &e.B, &e.C, &e.D, &e.Ref, &e.Model, &m.Kind}[g.below(9)] = far[g.below(len(far))]
			v := vals[g.below(len(vals))]
			switch g.below(6) {
			case 0:
				e.Val = v
			case 1:
				m.Kp = v
			case 2:
				m.Vt = v
			case 3:
				m.Breaks = append(m.Breaks, v)
			case 4:
				m.Pieces = append(m.Pieces, []api.Val{v, v})
			case 5:
				m.Pieces = append(m.Pieces, nil)
			}
			if g.below(2) == 0 {
				w.Net.Elems = w.Net.Elems[:len(w.Net.Elems)-1]
			}
			list = append(list, w)
		}
	}
	return list
}

// anyTexts are texts of many kinds.
func anyTexts() []string {
	return []string{
		"", "\n", "x", "\x00\xff\xfe\n", strings.Repeat("(", 29999) + "\n", strings.Repeat("{ ", 14999) + "\n", strings.Repeat("( ", 14999) + "\n",
		lines("v a 1 0 { " + strings.Repeat("( ", 14000)), lines("v a 1 0 { " + strings.Repeat("- ", 14000)), lines("v a 1 0 { " + strings.Repeat("1 + ", 7000)),
		lines("model k curve" + strings.Repeat(" 1", 14000)), lines("model k curve 1" + strings.Repeat(" | 1 | 1", 3000)),
		lines("sub s" + strings.Repeat(" a", 14000)), lines("sub s a with" + strings.Repeat(" k 1", 7000)), lines("sub s a", "ends", "x x"+strings.Repeat(" a", 14000)+" s"),
		strings.Repeat("\n", 30000), strings.Repeat("ends\n", 6000), strings.Repeat("with\n", 6000), lines(nest(10)...), lines(many(60, "r rN a b { 1 / N }")...),
		"sub s\nends\nx\nx x\nx x s\nx x with\nmodel\nmodel k\nmodel k curve\n", strings.Repeat("1", 30000), strings.Repeat("9", 40000),
	}
}

func TestP3_12AnyArguments(t *testing.T) {
	files, texts := anyFiles(), anyTexts()
	call := func(i int) string {
		other := files[(7*i+3)%len(files)].Net
		elem := []int{0, 1, -1, i % 61, math.MaxInt, math.MinInt}[i%6]
		v := []api.Val{"1", "", "0", digits(1001), "-3/7"}[i%5]
		return answers(files[i], other, elem, v, texts[i%len(texts)])
	}
	var before, first []string
	for i, f := range files {
		before = append(before, fmt.Sprint(f))
		first = append(first, call(i))
	}
	// Goroutines share the arguments: what changes one of them is found by the race detector, too.
	var group sync.WaitGroup
	for range 4 {
		group.Go(func() {
			for i := range files {
				if got := call(i); got != first[i] {
					t.Errorf("the answers for %.200s are others", before[i])
				}
			}
		})
	}
	group.Wait()
	for i, f := range files {
		if now := fmt.Sprint(f); now != before[i] {
			t.Errorf("%.200s was changed to %.200s", before[i], now)
		}
	}
}

// spoil changes all of a net, also what could be behind the ends of its lists.
func spoil(n api.Net) {
	for i := range n.Elems[:cap(n.Elems)] {
		n.Elems[:cap(n.Elems)][i] = api.Elem{Kind: 99, Val: "spoilt"}
	}
	models := n.Models[:cap(n.Models)]
	for i := range models {
		for _, piece := range models[i].Pieces {
			spoilTexts(piece)
		}
		for k := range models[i].Pieces {
			models[i].Pieces[k] = nil
		}
		spoilTexts(models[i].Breaks)
		models[i] = api.Model{Kind: 99}
	}
}

func spoilTexts[T ~string](list []T) {
	list = list[:cap(list)]
	for i := range list {
		list[i] = "spoilt"
	}
}

func spoilRows(rows [][]int) {
	for _, row := range rows {
		for i := range row[:cap(row)] {
			row[:cap(row)][i] = 99
		}
	}
}

func TestP3_12ResultsAreNewMemory(t *testing.T) {
	g := newNumbers()
	n := g.net(9, 40)
	n.Elems = append(n.Elems, api.Elem{Kind: api.ElV, A: 1, B: 1, Val: "3"}, api.Elem{Kind: api.ElI, A: 1, B: 1, Val: "3"})
	n.Nodes = 10
	before := fmt.Sprint(n)
	m, _ := net.With(n, 40, "5")
	l, _ := net.With(n, 40, "6")
	was := fmt.Sprint(l)
	spoil(m)
	if fmt.Sprint(n) != before || fmt.Sprint(l) != was {
		t.Fatal("With shares memory")
	}
	rows, _ := net.Incidence(n)
	loops, _ := net.Cycles(n)
	want, wantLoops := fmt.Sprint(rows[1:]), fmt.Sprint(loops[1:])
	spoilRows(rows[:1])
	spoilRows(loops[:1])
	if fmt.Sprint(rows[1:]) != want || fmt.Sprint(loops[1:]) != wantLoops {
		t.Fatal("rows share memory")
	}
	spoilRows(append(rows, loops...))
	for _, dc := range []bool{false, true} {
		loop, _ := net.Loop(n, dc)
		cut, _ := net.Cut(n, dc)
		own, _ := net.Unknowns(n)
		spoilRows([][]int{loop, cut, own})
	}
	if again, _ := net.Incidence(n); fmt.Sprint(again[1:]) != want {
		t.Error("Incidence keeps its rows")
	}
	if again, _ := net.Cycles(n); fmt.Sprint(again[1:]) != wantLoops {
		t.Error("Cycles keeps its rows")
	}
	if fmt.Sprint(n) != before {
		t.Error("the net was changed")
	}
}

func TestP3_12ParseKeepsNothing(t *testing.T) {
	text := lines("model k curve 0 1 | 1 | 1", "model q square 1 1", "sub s a", "r r1 a m 1", "ends", "v v1 a 0 1", "x x1 a s", "x x2 a s", "d d1 a b k")
	f, _, _ := net.Parse(text)
	want := fmt.Sprint(f)
	spoil(f.Net)
	spoilTexts(f.Nodes)
	spoilTexts(f.Elems)
	spoilTexts(f.Models)
	if g, _, _ := net.Parse(text); fmt.Sprint(g) != want {
		t.Errorf("Parse = %v, not %s", g, want)
	}
}

// The numbers of a model stay what they are, and those that Law gets.
func TestP3_12LawKeepsNumbers(t *testing.T) {
	g, v := num(t, "7/3"), num(t, "-5/2")
	for _, m := range []api.Model{bend(), law(), curve(nil, []api.Val{"5"}), curve(nil, []api.Val{"0", "1"})} {
		before := fmt.Sprint(m)
		x, _ := net.Law(m, g, v)
		was := value.Text(x)
		net.Law(m, v, g)
		if value.Text(g) != "7/3" || value.Text(v) != "-5/2" || value.Text(x) != was || fmt.Sprint(m) != before {
			t.Errorf("Law of %s changes numbers", before)
		}
	}
}
