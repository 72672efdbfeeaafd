package desk_test

import (
	"strconv"
	"strings"
	"testing"

	"pentode/api"
	"pentode/net"
)

// num is a number as it may be written, above one above 0.
func (g *numbers) num() string {
	return g.one("0", "1", "-1", "2", "1/2", "-3/2", "0.5", "-0.250", "100m", "3", "-2", "5/3", "01", "1k", g.above())
}

func (g *numbers) above() string {
	return g.one("1", "2", "1/2", "3/2", "0.5", "250m", "3", "4.0", "5/3", "7/4", "1/10", "10")
}

// Sorts of circuits.
const (
	direct      = iota // linear, for direct current
	stored             // linear, with capacitors and inductors
	curved             // with curves, and no elements that carry a current of their own
	integrating        // a capacitor from each node to the ground
	general            // elements of all kinds
	sorts
)

// sortWords are the words of the elements of a sort; some are there more often.
var sortWords = [sorts]string{
	direct:      "r i g s r i v e f h",
	stored:      "r i g s r i v e c c l",
	curved:      "r i g s r i d c d",
	integrating: "r i g s r i d m",
	general:     "r i g s r i v e f h c l d m q r",
}

// circuit is the text of a circuit of a sort, with few nodes.
func (g *numbers) circuit(sort int) string {
	list := []string{"model k curve 0 1 | 1 | 2 -1 | 2 | -2 1", "model t square 2 1"}
	nodes := []string{"0", "a", "1", "x.y", "and"}[:2+g.below(3)]
	if sort == direct || sort == stored || sort == general {
		list = append(list, "v src "+nodes[1]+" 0 "+g.num())
	}
	for i := range 1 + g.below(5) {
		word := g.one(strings.Fields(sortWords[sort])...)
		name := word + strconv.Itoa(i)
		if g.below(8) == 0 {
			name = g.one("and", "by", "dc", "run", "e1_") + strconv.Itoa(i)
		}
		list = append(list, word+" "+name+" "+g.behindName(word, nodes))
	}
	for i, node := range nodes[1:] {
		if sort == integrating {
			list = append(list, "c cap"+strconv.Itoa(i)+" "+node+" 0 "+g.above())
		}
		if g.below(5) > 0 {
			list = append(list, "r res"+strconv.Itoa(i)+" "+node+" 0 "+g.above())
		}
	}
	return strings.Join(list, "; ")
}

// behindName is what is behind the name in the line of an element, which mostly is between two different nodes.
func (g *numbers) behindName(word string, nodes []string) string {
	node := func() string { return g.one(nodes...) }
	ends := node() + " " + node() + " "
	if g.below(4) > 0 {
		ends = nodes[1] + " " + g.one(append(nodes[2:len(nodes):len(nodes)], "0")...) + " "
	}
	switch word {
	case "r", "c", "l":
		return ends + g.above()
	case "e", "g":
		return ends + node() + " " + node() + " " + g.num()
	case "f", "h":
		return ends + "src " + g.num()
	case "d", "q":
		return ends + "k"
	case "m":
		return ends + node() + " t"
	case "s":
		return ends + g.one("on ", "off ") + g.above()
	}
	return ends + g.num()
}

// file is the file of a circuit of a sort.
func (g *numbers) file(t testing.TB, sort int) api.NtFile {
	t.Helper()
	return read(t, g.circuit(sort))
}

// unknown is the word of an unknown.
func (g *numbers) unknown(f api.NtFile) string {
	own, _ := net.Unknowns(f.Net)
	at := g.below(len(f.Nodes) + len(own))
	if at < len(f.Nodes) {
		return "v:" + f.Nodes[at]
	}
	return "i:" + f.Elems[own[at-len(f.Nodes)]]
}

// times is what some words are, put together so many times.
func times(n int, word func() string) string {
	s := ""
	for range n {
		s += " " + word()
	}
	return s
}

// box is a box for a circuit, point a point, and varied elements with ranges.
func (g *numbers) box(f api.NtFile) string {
	return times(unknownsOf(f), func() string {
		return "-" + strconv.Itoa(1+g.below(4)) + " " + g.above()
	})
}

func (g *numbers) point(f api.NtFile) string {
	return times(unknownsOf(f), g.num)
}

func (g *numbers) varied(f api.NtFile) string {
	return times(g.below(4), func() string {
		return g.one(f.Elems...) + " " + g.one("1/10 2", "1 3/2", "1 10", "0.5 0.75", "2 2")
	})
}

func unknownsOf(f api.NtFile) int {
	return len(f.Nodes) + len(ownCurrents(f.Net))
}

// source is the name of a source, if there is one.
func (g *numbers) source(f api.NtFile) string {
	var list []string
	for i, e := range f.Net.Elems {
		if e.Kind == api.ElV || e.Kind == api.ElI {
			list = append(list, f.Elems[i])
		}
	}
	if len(list) == 0 {
		return f.Elems[0]
	}
	return g.one(list...)
}

// commandWords are the first words of all commands.
var commandWords = strings.Fields("text unknowns loop cut exact points narrow stable char ratio transfer wave enclose worst yield faults ladder")

// command is a line with a first word, which mostly is right.
func (g *numbers) command(f api.NtFile, first string) string {
	integer := func(list ...string) string { return " " + g.one(list...) }
	switch first {
	case "loop", "cut":
		return first + g.one("", " dc")
	case "points":
		return first + integer("4", "8", "12", "20") + integer("1", "20", "60") + g.box(f)
	case "narrow":
		return first + integer("4", "8", "20") + integer("0", "1", "5") + g.box(f)
	case "stable":
		return first + g.point(f)
	case "ratio":
		return first + " " + g.source(f) + " " + g.unknown(f)
	case "transfer":
		return first + " " + g.source(f) + " " + g.unknown(f) + times(g.below(3), func() string { return g.one(f.Elems...) })
	case "wave":
		return first + " " + g.above() + " " + g.one("1", "2", "5/2") + " " + g.one("0", "1/100", "0.1") + integer("8", "20", "40") + g.point(f)
	case "enclose":
		return first + " " + g.one("1/8", "0.01", "1/100", "1") + integer("1", "3") + integer("8", "20") + g.box(f)
	case "worst":
		return first + " " + g.unknown(f) + " and" + g.varied(f)
	case "yield":
		return first + integer("0", "3", "8") + " -" + g.above() + " " + g.above() + " " + g.unknown(f) + " and" + g.varied(f)
	case "faults":
		outs := times(1+g.below(2), func() string { return g.unknown(f) + " " + g.num() })
		return first + " " + g.above() + " " + g.one("0", "1/10") + " " + g.one("0", "1/2") + " and" + outs + " by" + g.varied(f)
	case "ladder":
		return first + " " + g.above() + " " + g.above() + g.one(" 1 1", " 1 2 1", " 1 2 2 1", " 3 3 1 0", " 15 15 6 1", times(1+g.below(4), g.num))
	}
	return first
}

// anyCommand is a line that may be wrong, empty, or none at all.
func (g *numbers) anyCommand(f api.NtFile) string {
	line := g.command(f, g.one(commandWords...))
	words := strings.Fields(line)
	at := g.below(len(words))
	switch g.below(12) {
	case 0:
		return g.one("", " ", "*", "* "+line, "x", "run", "\t", line+" \x00")
	case 1:
		words[at] = g.one("x", "v:x", "i:x", "v:0", "1/0", "1/2", "and", "by", "dc", "-1", "0", digits(401), "\xff", line)
	case 2:
		words = append(words[:at], words[at+1:]...)
	case 3:
		words = append(words, g.one("1", "x", "v:a", "and"))
	case 4:
		words[0] = g.one(commandWords...)
	case 5:
		other := g.below(len(words))
		words[at], words[other] = words[other], words[at]
	}
	return strings.Join(words, g.one(" ", "  "))
}
