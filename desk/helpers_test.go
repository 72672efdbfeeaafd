package desk_test

import (
	"fmt"
	"slices"
	"strings"
	"testing"

	"pentode/api"
	"pentode/desk"
	"pentode/net"
)

// lines puts a byte 10 behind each line; they are separated by semicolons with a blank.
func lines(s string) string {
	if s == "" {
		return ""
	}
	return strings.ReplaceAll(s, "; ", "\n") + "\n"
}

// read returns the file of some lines, which have to be right.
func read(t testing.TB, s string) api.NtFile {
	t.Helper()
	f, line, e := net.Parse(lines(s))
	if line != 0 || e != api.OK {
		t.Fatalf("Parse(%.200q) = %d, %d", s, line, e)
	}
	return f
}

// Circuits of the chapters, and some others.
const (
	tunnel  = "model k curve 0 1 | 1 | 2 -1 | 2 | -2 1; v v1 1 0 5/2; r r1 1 2 2; d d1 2 0 k"                          // W
	latch   = "model k curve 0 1 | 1 | 2 -1 | 2 | -2 1; i i1 0 1 5/4; r r1 1 0 2; d d1 1 0 k; c c1 1 0 1"              // as W, with a source of current
	divider = "v v1 a 0 12; r r1 a b 2; r r2 b 0 1"                                                                    // V of chapter 7, T of chapter 10
	ladder2 = "v v1 1 0 5; r r1 1 2 2; c c1 2 0 3"                                                                     // D of chapter 5
	decay   = "r r1 1 0 1; c c1 1 0 1"                                                                                 // R of chapter 6
	charge  = "i i1 0 1 2; c c1 1 0 4"                                                                                 // I of chapter 6
	single  = "i i1 0 a 1; r r1 a 0 1"                                                                                 // one unknown, which is 1
	doubled = "v v1 a 0 1; v v2 a 0 1; c c1 b 0 1; l l1 c 0 2; l l2 c 0 2"                                             // loops and a cut
	names   = "v and and 0 6; r by and dc 2; r dc dc 0 1"                                                              // names that are words of the table
	mixed   = "model t square 2 1; v v1 g 0 2; r r1 d g 1; m m1 d g 0 t; c c1 d 0 2; s s1 d 0 off 1; f f1 0 d v1 1/10" // a transistor, a switch, and a current that refers to another one
)

// check holds what Line returns against what it has to.
func check(t *testing.T, f api.NtFile, line string, want []string, wantE api.Errno) {
	t.Helper()
	if got, e := desk.Line(f, line); !slices.Equal(got, want) || e != wantE {
		t.Errorf("Line of %.200q = %.400q, %d, not %.400q, %d", line, got, e, want, wantE)
	}
}

// fails holds what Line returns against an error.
func fails(t *testing.T, f api.NtFile, line string, want api.Errno) {
	t.Helper()
	check(t, f, line, nil, want)
}

// answers holds what Line returns against lines, which are separated by semicolons with a blank.
func answers(t *testing.T, f api.NtFile, line, want string) {
	t.Helper()
	var list []string
	if want != "" {
		list = strings.Split(want, "; ")
	}
	check(t, f, line, list, api.OK)
}

// run is the output of a script without an error.
func run(t testing.TB, text string) string {
	t.Helper()
	out, line, e := desk.Run(text)
	if line != 0 || e != api.OK {
		t.Fatalf("Run of %.200q = line %d, error %d", text, line, e)
	}
	return out
}

// digits is the text of an integer with so many digits.
func digits(n int) string {
	return "1" + strings.Repeat("0", n-1)
}

// wide is a circuit with so many unknowns: nodes with a resistor each, and one source of voltage.
func wide(unknowns int) string {
	list := []string{"v v1 n1 0 1"}
	for i := range unknowns - 1 {
		list = append(list, fmt.Sprintf("r r%d n%d 0 1", i+1, i+1))
	}
	return strings.Join(list, "; ")
}

// copied is a file in memory of its own.
func copied(f api.NtFile) api.NtFile {
	g := api.NtFile{Nodes: slices.Clone(f.Nodes), Elems: slices.Clone(f.Elems), Models: slices.Clone(f.Models)}
	g.Net = api.Net{Nodes: f.Net.Nodes, Elems: slices.Clone(f.Net.Elems), Models: slices.Clone(f.Net.Models)}
	for i, m := range f.Net.Models {
		g.Net.Models[i].Breaks = slices.Clone(m.Breaks)
		g.Net.Models[i].Pieces = slices.Clone(m.Pieces)
		for k, piece := range m.Pieces {
			g.Net.Models[i].Pieces[k] = slices.Clone(piece)
		}
	}
	return g
}

// numbers gives the same numbers in each run.
type numbers struct{ state uint64 }

func newNumbers() *numbers {
	return &numbers{state: 88172645463325252}
}

// below is an int from 0 to n - 1.
func (g *numbers) below(n int) int {
	g.state ^= g.state << 13
	g.state ^= g.state >> 7
	g.state ^= g.state << 17
	return int(g.state % uint64(n))
}

// one is one of some words.
func (g *numbers) one(list ...string) string {
	return list[g.below(len(list))]
}
