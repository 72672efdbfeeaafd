package desk_test

import (
	"strconv"
	"strings"
	"testing"

	"pentode/api"
	"pentode/desk"
	"pentode/net"
)

// counted is an output in which the numbers of errors are counted on from another one.
func counted(t *testing.T, out string, on func(n int) int) string {
	t.Helper()
	list := strings.SplitAfter(out, "\n")
	for i, line := range list {
		words := strings.Fields(line)
		if len(words) == 3 && words[0] == "error" {
			n, err := strconv.Atoi(words[1])
			if err != nil {
				t.Fatalf("the output has the line %q", line)
			}
			list[i] = "error " + strconv.Itoa(on(n)) + " " + words[2] + "\n"
		}
	}
	return strings.Join(list, "")
}

// someCommands are lines for a circuit, some of which are wrong, or empty.
func (g *numbers) someCommands(f api.NtFile) []string {
	var list []string
	for range g.below(12) {
		list = append(list, g.anyCommand(f))
	}
	return list
}

// script is a circuit with commands behind it.
func script(circuit string, commands []string) string {
	text := circuit + "run\n"
	for _, line := range commands {
		text += line + "\n"
	}
	return text
}

func TestP11_4OneByOne(t *testing.T) {
	g := newNumbers()
	outputs := map[string]bool{}
	for i := range 100 {
		circuit := lines(g.circuit(i % sorts))
		f, _, _ := net.Parse(circuit)
		list := g.someCommands(f)
		at := g.below(len(list) + 1)
		first, others := run(t, script(circuit, list[:at])), run(t, script(circuit, list[at:]))
		out := first + counted(t, others, func(n int) int { return n + at })
		prints(t, script(circuit, list), out)
		outputs[out] = true
	}
	if len(outputs) < 80 {
		t.Errorf("there are only %d outputs", len(outputs))
	}
}

func TestP11_4EmptyLines(t *testing.T) {
	g := newNumbers()
	for i := range 100 {
		circuit := lines(g.circuit(i % sorts))
		f, _, _ := net.Parse(circuit)
		list := g.someCommands(f)
		var more []string
		numbers := map[int]int{}
		for at, line := range list {
			for range g.below(3) {
				more = append(more, g.one("", "   ", "*", "* exact", " *x"))
			}
			more = append(more, line)
			numbers[at+1] = len(more)
		}
		want := counted(t, run(t, script(circuit, list)), func(n int) int { return numbers[n] })
		prints(t, script(circuit, more), want)
	}
}

// circuits are texts with all that a text of a circuit may have.
var circuits = []string{
	"",
	"* nothing",
	tunnel,
	latch,
	divider,
	names,
	mixed,
	doubled,
	"sub div a b with k 2; r top a m 1k; r low m b { k * 1k }; ends; v v1 in 0 5; x x1 in 0 div with k 3; * end",
	"  r   r1  a b 4.7k; ; * r r2 a b 1; c c1 b 0 100n; v v1 a 0 { ( 1 + 2 ) * -3 }; l l1 b 0 007m",
	"model k curve 0.0 1.0 | 1000m | 2 -1 | 2.0 | -2 1; model t square 2k 0.5; sub one p q with u 1 w { 2 * 3 }; v v p in u; r r in q w; d d p q k; m m p in q t; ends; x a 1 0 one; x b 1 0 one with w 5; s s 1 0 on 1k; s o 1 0 off 2",
	"sub low a; r r a 0 1; ends; sub high a; x x a low; x y b low; v v a b 1; f f 0 a v 2; ends; x z n high; h h n m z.v 3; g g m 0 n 0 1u; e e w 0 n m 2; r r w 0 3",
}

func TestP11_5Texts(t *testing.T) {
	g := newNumbers()
	list := append([]string(nil), circuits...)
	for i := range 40 {
		list = append(list, g.circuit(i%sorts))
	}
	for _, circuit := range list {
		f := read(t, circuit)
		s, e := net.Print(f)
		if e != api.OK {
			t.Fatalf("Print of %q = %d", circuit, e)
		}
		if len(f.Elems) == 0 {
			prints(t, script(lines(circuit), commandWords), run(t, script(s, commandWords)))
			continue
		}
		commands := []string{"text", "unknowns", "exact", "loop", "loop dc", "cut", "cut dc", "char"}
		for range 30 {
			commands = append(commands, g.anyCommand(f))
		}
		out := run(t, script(s, commands))
		prints(t, script(lines(circuit), commands), out)
		if !strings.HasPrefix(out, s) {
			t.Errorf("the output of %q begins with %.200q", circuit, out)
		}
	}
}

// What a script finds for a circuit is what Line finds for the file of this circuit.
func TestP11_5Files(t *testing.T) {
	for _, circuit := range circuits {
		f := read(t, circuit)
		want := ""
		commands := []string{"text", "unknowns", "exact", "loop", "loop dc", "cut", "cut dc", "char"}
		for i, command := range commands {
			list, e := desk.Line(f, command)
			if e != api.OK {
				list = []string{"error " + strconv.Itoa(i+1) + " " + strconv.Itoa(int(e))}
			}
			for _, line := range list {
				want += line + "\n"
			}
		}
		prints(t, script(lines(circuit), commands), want)
	}
}
