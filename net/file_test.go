package net_test

import (
	"slices"
	"strconv"
	"strings"
	"testing"

	"pentode/api"
	"pentode/net"
)

// nodesOf are the nodes of an element in the order of its line.
func nodesOf(e api.Elem) []int {
	switch e.Kind {
	case api.ElE, api.ElG:
		return []int{e.A, e.B, e.C, e.D}
	case api.ElM:
		return []int{e.A, e.C, e.B}
	}
	return []int{e.A, e.B}
}

// file has a valid net with names, whose nodes are numbered as they come up.
func (g *numbers) file(nodes, elems int) api.NtFile {
	f := api.NtFile{Net: g.net(nodes, elems)}
	number := map[int]int{0: 0}
	for _, e := range f.Net.Elems {
		for _, node := range nodesOf(e) {
			if _, is := number[node]; !is {
				number[node] = len(number)
			}
		}
	}
	f.Net.Nodes = len(number) - 1
	for i := range f.Net.Elems {
		e := &f.Net.Elems[i]
		e.A, e.B, e.C, e.D = number[e.A], number[e.B], number[e.C], number[e.D]
		f.Elems = append(f.Elems, g.name("abyz_.", i))
	}
	for i := range f.Net.Nodes {
		f.Nodes = append(f.Nodes, g.name("0127kz_.", i+1))
	}
	for i := range f.Net.Models {
		f.Models = append(f.Models, g.name("moel", i))
	}
	return f
}

// name is a name which a number makes different from others.
func (g *numbers) name(letters string, number int) string {
	word := strings.Repeat("x", len(letters)%2) + letters[:1]
	for range g.below(20) {
		at := g.below(len(letters))
		word += letters[at : at+1]
	}
	return word + "." + strconv.Itoa(number)
}

func ordered(t *testing.T, what string, f api.NtFile, want bool) {
	t.Helper()
	if is, e := net.Order(f); is != want || e != api.OK {
		t.Errorf("%s: Order = %v, %d", what, is, e)
	}
	s, e := net.Print(f)
	if want != (e == api.OK) || !want && (e != api.ErrForm || s != "") {
		t.Errorf("%s: Print = %q, %d", what, s, e)
	}
}

// small is a file in order.
func small(t *testing.T) api.NtFile {
	t.Helper()
	return read(t, "model k curve 0", "model q square 1 1", "r r1 a 0 1", "m m1 a g s q", "e e1 a s c d 2", "d d1 d a k")
}

func TestP3_7Order(t *testing.T) {
	ordered(t, "a file", small(t), true)
	ordered(t, "the empty file", api.NtFile{}, true)
	ordered(t, "a file with empty lists", api.NtFile{Net: api.Net{Elems: []api.Elem{}}, Nodes: []string{}, Elems: []string{}, Models: []string{}}, true)
	long := "a" + strings.Repeat("9", 39)
	changes := []struct {
		change func(f *api.NtFile)
		is     bool
	}{
		{func(f *api.NtFile) { f.Nodes = f.Nodes[:4] }, false},
		{func(f *api.NtFile) { f.Nodes = append(f.Nodes, "more") }, false},
		{func(f *api.NtFile) { f.Nodes = nil }, false},
		{func(f *api.NtFile) { f.Elems = f.Elems[:3] }, false},
		{func(f *api.NtFile) { f.Elems = append(f.Elems, "more") }, false},
		{func(f *api.NtFile) { f.Models = f.Models[:1] }, false},
		{func(f *api.NtFile) { f.Models = append(f.Models, "more") }, false},
		{func(f *api.NtFile) { f.Nodes[4] = f.Nodes[0] }, false},
		{func(f *api.NtFile) { f.Elems[0] = f.Elems[3] }, false},
		{func(f *api.NtFile) { f.Models[0] = f.Models[1] }, false},
		{func(f *api.NtFile) { f.Nodes[2] = "0" }, false},
		{func(f *api.NtFile) { f.Nodes[2] = "00" }, true},
		{func(f *api.NtFile) { f.Nodes[2] = "" }, false},
		{func(f *api.NtFile) { f.Nodes[2] = "A" }, false},
		{func(f *api.NtFile) { f.Nodes[2] = "a b" }, false},
		{func(f *api.NtFile) { f.Nodes[2] = "7_." }, true},
		{func(f *api.NtFile) { f.Nodes[2] = long }, true},
		{func(f *api.NtFile) { f.Nodes[2] = long + "1" }, false},
		{func(f *api.NtFile) { f.Nodes[2] = f.Elems[0] }, true},
		{func(f *api.NtFile) { f.Elems[2] = "" }, false},
		{func(f *api.NtFile) { f.Elems[2] = "7a" }, false},
		{func(f *api.NtFile) { f.Elems[2] = "a-" }, false},
		{func(f *api.NtFile) { f.Elems[2] = long }, true},
		{func(f *api.NtFile) { f.Elems[2] = long + "1" }, false},
		{func(f *api.NtFile) { f.Elems[2] = f.Models[0] }, true},
		{func(f *api.NtFile) { f.Models[1] = "" }, false},
		{func(f *api.NtFile) { f.Models[1] = "7a" }, false},
		{func(f *api.NtFile) { f.Models[1] = "a\n" }, false},
		{func(f *api.NtFile) { f.Models[1] = long }, true},
		{func(f *api.NtFile) { f.Models[1] = long + "1" }, false},
		{func(f *api.NtFile) { f.Net.Nodes, f.Nodes = 6, append(f.Nodes, "more") }, false},
		{func(f *api.NtFile) { f.Net.Elems[0].A, f.Net.Elems[0].B = 2, 1 }, false},
		{func(f *api.NtFile) { f.Net.Elems[0].A, f.Net.Elems[0].B = 0, 1 }, true},
		{func(f *api.NtFile) { f.Net.Elems[1].B, f.Net.Elems[1].C = 2, 3 }, false},
		{func(f *api.NtFile) { f.Net.Elems[2].C, f.Net.Elems[2].D = 5, 4 }, false},
		{func(f *api.NtFile) { f.Net.Elems[2].D = 4 }, true},
		{func(f *api.NtFile) { f.Net.Elems[2].D, f.Net.Elems[3].A = 4, 4 }, false},
		{func(f *api.NtFile) { f.Net.Elems[0], f.Net.Elems[3] = f.Net.Elems[3], f.Net.Elems[0] }, false},
	}
	for i, c := range changes {
		f := small(t)
		c.change(&f)
		ordered(t, "change "+strconv.Itoa(i), f, c.is)
	}
	// a net with nodes, but without elements
	ordered(t, "no elements", api.NtFile{Net: api.Net{Nodes: 1}, Nodes: []string{"a"}}, false)
	// the error of Check comes before all of it
	f := small(t)
	f.Nodes, f.Net.Elems[3].Model = nil, 1
	if is, e := net.Order(f); is || e != api.ErrRange {
		t.Errorf("Order of a net that is not valid = %v, %d", is, e)
	}
	if s, e := net.Print(f); s != "" || e != api.ErrRange {
		t.Errorf("Print of a net that is not valid = %q, %d", s, e)
	}
}

func TestP3_7Print(t *testing.T) {
	text := []string{
		"model k curve 0", "model q square 1000 1/2", "model j curve 1 -2 | 1/2 | 0 | 1 | -1 0 1",
		"r r1 a b 1", "c c1 a b 2", "l l1 a b 3", "v v1 a 0 -4", "i i1 0 b 5", "e e1 a b c d 6", "g g1 d c b 0 7", "f f1 a b h1 8", "h h1 a b h1 -9/7",
		"d d1 a b j", "m m1 d g s q", "q q1 b a k", "s s1 a b on 10", "s s2 a b off 11",
	}
	if got := flat(t, text...); got != strings.Join(text, "\n") {
		t.Errorf("Print =\n%s", got)
	}
	if s, e := net.Print(api.NtFile{}); s != "" || e != api.OK {
		t.Errorf("Print of nothing = %q, %d", s, e)
	}
}

func TestP3_7LongTexts(t *testing.T) {
	// 15 long lines, of which the last one makes 30000 bytes of all
	f := api.NtFile{Net: api.Net{Nodes: 1}, Nodes: []string{"a"}}
	left := api.MaxNetText
	for i := range 15 {
		name := "r" + strconv.Itoa(10+i)
		bottom := "/1" + api.Val(strings.Repeat("0", 999))
		rest := len("r ") + len(name) + len(" a 0 ") + len(bottom) + 1
		val := digits(1000) + bottom
		if i == 14 {
			val = digits(left-rest) + bottom
		}
		left -= rest + 1000
		f.Net.Elems = append(f.Net.Elems, api.Elem{Kind: api.ElR, A: 1, Val: val})
		f.Elems = append(f.Elems, name)
	}
	s, e := net.Print(f)
	if len(s) != api.MaxNetText || e != api.OK {
		t.Fatalf("Print = %d bytes, %d", len(s), e)
	}
	g := copiedFile(f)
	g.Elems[3] += "x"
	if s, e := net.Print(g); s != "" || e != api.ErrLong {
		t.Errorf("Print of a byte more = %d bytes, %d", len(s), e)
	}
	if is, e := net.Order(g); !is || e != api.OK {
		t.Errorf("Order = %v, %d", is, e)
	}
	// the form comes before the length
	g.Elems[4] = g.Elems[3]
	if s, e := net.Print(g); s != "" || e != api.ErrForm {
		t.Errorf("Print of equal names = %d bytes, %d", len(s), e)
	}
}

// back looks at a file that is in order: its text is read back.
func back(t *testing.T, f api.NtFile) {
	t.Helper()
	if is, e := net.Order(f); !is || e != api.OK {
		t.Fatalf("Order of %v = %v, %d", f, is, e)
	}
	s, e := net.Print(f)
	if e != api.OK {
		t.Fatalf("Print of %v = %d", f, e)
	}
	g, line, e := net.Parse(s)
	if line != 0 || e != api.OK || !sameFile(f, g) {
		t.Fatalf("Parse of %s = %v, %d, %d", s, g, line, e)
	}
	if again, e := net.Print(g); again != s || e != api.OK {
		t.Fatalf("Print of %s = %s, %d", s, again, e)
	}
}

func TestP3_8Files(t *testing.T) {
	g := newNumbers()
	for i := range 400 {
		back(t, g.file(i%21, i%61))
	}
	back(t, g.file(20, 60))
	back(t, api.NtFile{})
}

func TestP3_8NumbersOfManyDigits(t *testing.T) {
	f := read(t, "v v1 a 0 1")
	f.Net.Elems[0].Val = digits(400)
	back(t, f)
	f.Net.Elems[0].Val = digits(1000) + "/1" + api.Val(strings.Repeat("0", 999))
	back(t, f)
	f.Net.Elems[0].Val = digits(401)
	s, e := net.Print(f)
	if e != api.OK {
		t.Fatalf("Print = %d", e)
	}
	told(t, s, 1, api.ErrLong)
}

// Of random words, most of which are right in some place, some texts are right ones; what they give is in order and comes back.
func TestP3_8RandomLines(t *testing.T) {
	g := newNumbers()
	kinds := strings.Fields("r c l v i e g f h d q m s x model sub ends")
	some := strings.Fields("a b c 0 1 2 k s q with on off { } + - * / ( ) | curve square 1k 1/2 -3 6/8 p a.b x1 * w")
	seen := map[api.Errno]int{}
	for range 60000 {
		list := slices.Clone(front(false))
		for range 1 + g.below(3) {
			line := kinds[g.below(len(kinds))] + " e" + strconv.Itoa(g.below(4))
			for range g.below(6) {
				line += " " + some[g.below(len(some))]
			}
			list = append(list, line)
		}
		f, line, e := net.Parse(lines(list...))
		seen[e]++
		if e != api.OK {
			if line < len(front(false)) || !sameFile(f, api.NtFile{}) {
				t.Fatalf("Parse(%q) = %v, %d, %d", list, f, line, e)
			}
			continue
		}
		back(t, f)
	}
	for _, e := range []api.Errno{api.OK, api.ErrForm, api.ErrRange, net.ErrName, net.ErrTwice, net.ErrPlace} {
		if seen[e] < 10 {
			t.Errorf("the error %d only %d times", e, seen[e])
		}
	}
}
