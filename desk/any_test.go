package desk_test

import (
	"fmt"
	"math"
	"slices"
	"strings"
	"sync"
	"testing"

	"pentode/api"
	"pentode/desk"
)

// asking is what Line and Run are called with.
type asking struct {
	f    api.NtFile
	line string
	text string
}

// given are all results, as one text.
func (a asking) given() string {
	l, e := desk.Line(a.f, a.line)
	out, line, f := desk.Run(a.text)
	return fmt.Sprintf("%q %d %q %d %d", l, e, out, line, f)
}

// anything are bytes of many kinds.
func (g *numbers) anything(n int) string {
	var b strings.Builder
	for range n {
		b.WriteString(g.one(" ", " ", "\n", "*", "\x00", "\xff", "\xc3\xa4", "run", "exact", "points", "worst", "and", "by", "v:", "i:", "a", "1", "/", "-", ".", "k", "r r1 a 0 1\n", "run\n", digits(30)))
	}
	return b.String()
}

// spoilt changes something in a file, which mostly is not valid then.
func (g *numbers) spoilt(f api.NtFile) api.NtFile {
	f = copied(f)
	far := []int{0, 1, -1, 2, 13, 64, math.MaxInt, math.MinInt}[g.below(8)]
	odd := g.one("", "1", "0", "-1", "x", "\xff", "1/0", "1k", digits(1000), digits(1001), strings.Repeat("x", 100000))
	at := g.below(len(f.Net.Elems))
	switch g.below(12) {
	case 0:
		f.Net.Nodes = far
	case 1:
		f.Net.Elems[at].Kind = far
	case 2:
		f.Net.Elems[at].Val = api.Val(odd)
	case 3:
		f.Net.Elems[at].A, f.Net.Elems[at].Ref = far, far
	case 4:
		f.Net.Elems[at].Model = far
	case 5:
		f.Nodes = append(f.Nodes, odd)
	case 6:
		f.Elems[at] = odd
	case 7:
		f.Models = append(f.Models, odd)
	case 8:
		f.Elems = nil
	case 9:
		f.Net.Models = nil
	case 10:
		f.Net.Elems = slices.Concat(f.Net.Elems, f.Net.Elems)
	}
	return f
}

// anyAskings are of many kinds.
func anyAskings(t *testing.T) []asking {
	g := newNumbers()
	huge := api.NtFile{
		Net:   api.Net{Nodes: math.MaxInt, Elems: make([]api.Elem, 3000), Models: make([]api.Model, 3000)},
		Nodes: make([]string, 3000), Elems: make([]string, 3000), Models: make([]string, 3000),
	}
	list := []asking{{}, {f: huge, line: strings.Repeat("x", 1<<20), text: strings.Repeat("run\n", 1<<18)}, {f: huge, line: "text"}}
	for i := range 300 {
		circuit := g.circuit(i % sorts)
		f := read(t, circuit)
		a := asking{f: g.spoilt(f), line: g.anyCommand(f), text: lines(circuit) + g.anything(g.below(40))}
		switch i % 4 {
		case 0:
			a.f, a.line = f, g.anything(1+g.below(20))
		case 1:
			a.f, a.line = f, g.one(commandWords...)+" "+g.anything(g.below(12))
			a.text = g.anything(g.below(60)) + "\n"
		case 2:
			a.text = script(lines(circuit), g.someCommands(f)) + g.anything(g.below(10)) + "\n"
		}
		list = append(list, a)
	}
	return list
}

func TestP11_6AnyArguments(t *testing.T) {
	list := anyAskings(t)
	var before, first []string
	for _, a := range list {
		before = append(before, fmt.Sprint(a))
		first = append(first, a.given())
		want, wantE := oracle(a.f, a.line)
		check(t, a.f, a.line, want, wantE)
	}
	// Goroutines share the arguments: what changes one of them is found by the race detector, too.
	var group sync.WaitGroup
	for range 4 {
		group.Go(func() {
			for i, a := range list {
				if got := a.given(); got != first[i] {
					t.Errorf("the results for %.200s are others", before[i])
				}
			}
		})
	}
	group.Wait()
	for i, a := range list {
		if now := fmt.Sprint(a); now != before[i] {
			t.Errorf("%.200s was changed to %.200s", before[i], now)
		}
	}
}

// Empty lists are as nil.
func TestP11_6Empty(t *testing.T) {
	empty := api.NtFile{Net: api.Net{Elems: []api.Elem{}, Models: []api.Model{}}, Nodes: []string{}, Elems: []string{}, Models: []string{}}
	for _, line := range []string{"", "text", "unknowns", "exact", "loop", "char", "stable", "points 8 5", "ladder 1 1 1 1", "x"} {
		want, e := desk.Line(api.NtFile{}, line)
		check(t, empty, line, want, e)
	}
}

func TestP11_6ResultsAreNewMemory(t *testing.T) {
	f := read(t, latch)
	// Behind the ends of the lists is something that has to stay as well.
	f.Nodes = append(slices.Clone(f.Nodes), "x", "y")[:len(f.Nodes)]
	f.Elems = append(slices.Clone(f.Elems), "x", "y")[:len(f.Elems)]
	f.Net.Elems = append(slices.Clone(f.Net.Elems), api.Elem{Kind: 7}, api.Elem{})[:len(f.Net.Elems)]
	whole := func() string {
		return fmt.Sprint(f, f.Nodes[:len(f.Nodes)+2], f.Elems[:len(f.Elems)+2], f.Net.Elems[:len(f.Net.Elems)+2])
	}
	before := whole()
	for _, line := range []string{
		"text", "unknowns", "exact", "points 12 60 0 3", "narrow 8 1 0 3", "stable 1/2", "wave 1 2 1/1000 20 1", "enclose 1/8 2 20 1 1", "ladder 1 1 1 2 1",
	} {
		want, e := desk.Line(f, line)
		if e != api.OK || len(want) == 0 {
			t.Fatalf("Line of %q = %q, %d", line, want, e)
		}
		kept := slices.Clone(want)
		clear(want[:cap(want)])
		_ = append(want, "x", "y", "z")
		check(t, f, line, kept, api.OK)
	}
	if whole() != before {
		t.Error("results share memory with arguments")
	}
}
