package desk_test

import (
	"fmt"
	"strings"
	"testing"

	"pentode/api"
	"pentode/desk"
	"pentode/net"
)

// ends holds what Run returns against an error, and the number of its line.
func ends(t *testing.T, text string, line int, want api.Errno) {
	t.Helper()
	if out, at, e := desk.Run(text); out != "" || at != line || e != want {
		t.Errorf("Run of %.200q = %.200q, line %d, error %d, not line %d, error %d", text, out, at, e, line, want)
	}
}

// prints holds what Run returns against an output.
func prints(t *testing.T, text, want string) {
	t.Helper()
	if out, line, e := desk.Run(text); out != want || line != 0 || e != api.OK {
		t.Errorf("Run of %.200q = %.400q, line %d, error %d, not %.400q", text, out, line, e, want)
	}
}

func TestP11_2Outputs(t *testing.T) {
	w := lines(tunnel) + "run\n"
	for commands, want := range map[string]string{
		"":                               "",
		"unknowns\n":                     "unknowns v:1 v:2 i:v1\n",
		"exact\n":                        "point 5/2 5/6 -5/6\npoint 5/2 3/2 -1/2\npoint 5/2 13/6 -1/6\n",
		"text\n":                         lines(tunnel),
		"loop\nunknowns\ncut\n":          "error 1 4\nunknowns v:1 v:2 i:v1\nerror 3 4\n",
		"\n\n*\n * x\nx\n\nexact 1\n":    "error 5 6\nerror 7 6\n",
		"char\nnarrow 3 1 0 1 0 1 0 1\n": "error 1 6\nerror 2 7\n",
		"enclose 1 1 20 0 1 0 1 0 1\n":   "error 1 161\n",
		"ladder 1 1 -1 0 1\n":            "error 1 180\n",
		"stable 1\nratio v1 v:9\nstable " + digits(401) + "\nratio v1 v:0\n":                       "error 1 2\nerror 2 4\nerror 3 3\nerror 4 6\n",
		strings.Repeat(" ", api.MaxDkLine+1) + "\nx" + strings.Repeat(" ", api.MaxDkLine-1) + "\n": "error 1 3\nerror 2 6\n",
		strings.Repeat("\n", 1000) + "x\n":                                                         "error 1001 6\n",
		"v v2 1 0 1\nr r2 1 0 1\n* r r3\n":                                                         "error 1 6\nerror 2 6\n",
		"unknowns\r\n\tunknowns\n":                                                                 "error 1 6\nerror 2 6\n",
	} {
		prints(t, w+commands, want)
	}
}

// The circuit ends at the first line that has just the word run, however many blanks it has.
func TestP11_2WhereCommandsBegin(t *testing.T) {
	for _, begin := range []string{"run\n", " run\n", "run   \n", "     run  \n"} {
		prints(t, lines(single)+begin+"unknowns\n", "unknowns v:a\n")
		prints(t, begin+"unknowns\n", "unknowns\n")
		prints(t, lines(single)+begin+"unknowns\n"+begin+"text\n", "unknowns v:a\nerror 2 6\n"+lines(single))
	}
	// It is no command line, and may be longer than one.
	prints(t, lines(single)+strings.Repeat(" ", api.MaxDkLine)+"run\nunknowns\n", "unknowns v:a\n")
	for _, begin := range []string{"* run\n", "*run\n", "*\n", "\n", " \n", ""} {
		prints(t, lines(single)+begin, "")
		prints(t, begin+lines(single)+"run\nunknowns\n", "unknowns v:a\n")
	}
	for _, begin := range []string{"run run\n", "run x\n", "run *\n", "Run\n", "RUN\n", "run\t\n", "\trun\n", "run\r\n", "run.\n", "running\n", "ru\n", "run\x00\n"} {
		ends(t, lines(single)+begin+"unknowns\n", 3, api.ErrForm)
		ends(t, lines(single)+begin+"run\nunknowns\n", 3, api.ErrForm)
		ends(t, begin, 1, api.ErrForm)
	}
	// A subcircuit, a node and an element may have this name.
	prints(t, "sub run run\nr run run 0 1\nends\nx run run run\nrun\ntext\n", "r run.run run 0 1\n")
	prints(t, "sub s a\nr r a 0 1\nends\nx x 1 s\nrun\ntext\n", "r x.r 1 0 1\n")
}

func TestP11_2NoCommands(t *testing.T) {
	for _, text := range []string{"", "\n", "*\n", "\n\n\n", "run\n", "\nrun\n", "run\n\n\n", "run\n*\n", lines(tunnel), lines(tunnel) + "\n", lines(tunnel) + "run\n"} {
		prints(t, text, "")
	}
	prints(t, "run\ntext\nunknowns\nexact\nloop\ncut\nchar\n", "unknowns\npoint\nerror 4 4\nerror 5 4\nchar 1\n")
}

func TestP11_2LengthsOfTexts(t *testing.T) {
	for extra, want := range map[int]api.Errno{-1: api.OK, 0: api.OK, 1: api.ErrLong, 2: api.ErrLong} {
		text := "run\nunknowns\n"
		text += strings.Repeat("\n", api.MaxDkText+extra-len(text))
		if want == api.OK {
			prints(t, text, "unknowns\n")
		} else {
			ends(t, text, 0, want)
		}
		ends(t, text[:len(text)-1]+"x", 0, map[bool]api.Errno{true: api.ErrLong, false: api.ErrForm}[extra > 0])
	}
	ends(t, strings.Repeat("x", api.MaxDkText), 0, api.ErrForm)
	ends(t, strings.Repeat("x", api.MaxDkText+1), 0, api.ErrLong)
	ends(t, "z\n"+strings.Repeat("\n", api.MaxDkText), 0, api.ErrLong)
}

func TestP11_2LastByte(t *testing.T) {
	for _, text := range []string{"x", "run", "run\nexact", "\nrun", " ", "*", "\x00", "z\nrun", "z\nrun\nx", "r r1 a 0 1", wide(13), "\n\r"} {
		ends(t, text, 0, api.ErrForm)
	}
}

func TestP11_2ErrorsOfTheCircuit(t *testing.T) {
	behind := "run\nexact\nx\n"
	for text, want := range map[string]struct {
		line int
		e    api.Errno
	}{
		"z\n":                                   {1, api.ErrForm},
		"unknowns\n":                            {1, api.ErrForm},
		"r r1 a 0 1\n\n* x\nr r2 a 0\n":         {4, api.ErrForm},
		"r r1 a 0 1\nr r1 a 0 1\n":              {2, net.ErrTwice},
		"d d1 a 0 k\n":                          {1, net.ErrName},
		"ends\n":                                {1, net.ErrPlace},
		"r r1 a 0 " + digits(401) + "\nz\n":     {1, api.ErrLong},
		"sub s a\n":                             {2, net.ErrPlace},
		"r r1 a 0 1\nsub s a\nr r1 a 0 1\n":     {4, net.ErrPlace},
		"r r1 a 0 0\n":                          {2, api.ErrRange},
		"r r1 a 0 { 1 / 0 }\n":                  {2, api.ErrZero},
		"f f1 a 0 v1 1\nr r1 a 0 1\n":           {3, net.ErrName},
		lines(wide(13)) + "z\n":                 {14, api.ErrForm},
		lines(wide(14)) + "f f1 n1 0 v9 1\n":    {16, net.ErrName},
		lines(wide(13)):                         {0, api.ErrLong},
		lines(wide(20)):                         {0, api.ErrLong},
		strings.Repeat("*\n", 15001):            {0, api.ErrLong},
		"z\n" + strings.Repeat("\n", 29999):     {0, api.ErrLong},
		"*" + strings.Repeat(" ", 30000) + "\n": {0, api.ErrLong},
	} {
		ends(t, text+behind, want.line, want.e)
		ends(t, text+"run\n", want.line, want.e)
		ends(t, text, want.line, want.e)
	}
	prints(t, lines(wide(12))+"run\nunknowns\n", "unknowns v:n1 v:n2 v:n3 v:n4 v:n5 v:n6 v:n7 v:n8 v:n9 v:n10 v:n11 i:v1\n")
	// A text of a circuit may be as long as net has it, and the commands as well.
	full := lines(single)
	full += strings.Repeat("\n", api.MaxNetText-len(full))
	tail := "run\nunknowns\n"
	prints(t, full+tail+strings.Repeat("\n", api.MaxDkText-len(full+tail)), "unknowns v:a\n")
	ends(t, "\n"+full+tail, 0, api.ErrLong)
}

// inBytes is a circuit of some lines, whose text has so many bytes.
func inBytes(n int) string {
	text := ""
	for i := 0; len(text) < n; i++ {
		begin := fmt.Sprintf("r r%d a 0 1/", i)
		rest := n - len(text) - len(begin) - 1
		if rest > 900 {
			rest = 400
		}
		text += begin + digits(rest) + "\n"
	}
	return text
}

func TestP11_2LengthsOfOutputs(t *testing.T) {
	full := inBytes(800) + "run\n" + strings.Repeat("text\n", 250)
	prints(t, full, strings.Repeat(inBytes(800), 250))
	prints(t, full+"\n*\n", strings.Repeat(inBytes(800), 250))
	ends(t, full+"text\n", 0, api.ErrLong)
	ends(t, full+"x\n", 0, api.ErrLong)
	ends(t, full+"x\n\ntext\n*\n", 0, api.ErrLong)
	// 163 times 1227 bytes are a byte more than there may be.
	ends(t, inBytes(1227)+"run\n"+strings.Repeat("text\n", 163), 0, api.ErrLong)
	prints(t, inBytes(1227)+"run\n"+strings.Repeat("text\n", 162), strings.Repeat(inBytes(1227), 162))
	// 70 times 2857 bytes are 10 less; so long is error 1 4 with its end, but error 10 4 is longer.
	prints(t, inBytes(2857)+"run\nloop\n"+strings.Repeat("text\n", 70), "error 1 4\n"+strings.Repeat(inBytes(2857), 70))
	ends(t, inBytes(2857)+"run\n"+strings.Repeat("\n", 9)+"loop\n"+strings.Repeat("text\n", 70), 0, api.ErrLong)
	// A single command: 200 lines with the numbers 1 to 200, another number, and 9 bytes more in each.
	for n, want := range map[int]api.Errno{988: api.OK, 989: api.ErrLong} {
		number := "1/" + digits(n)
		out, line, e := desk.Run("v v1 a 0 " + number + "\nrun\nwave 1 200 0 20 " + number + " 0\n")
		if e != want || line != 0 || e == api.OK && len(out) != 200*(n+9)+492 || e != api.OK && out != "" {
			t.Errorf("%d digits: %d bytes, line %d, error %d", n, len(out), line, e)
		}
	}
}

// What Run puts out is what Line returns, command by command.
func TestP11_2LineByLine(t *testing.T) {
	g := newNumbers()
	for i := range 100 {
		circuit := g.circuit(i % sorts)
		f := read(t, circuit)
		text, want := lines(circuit)+"run\n", ""
		for at := range 12 {
			command := g.anyCommand(f)
			text += command + "\n"
			list, e := oracle(f, command)
			if e != api.OK {
				list = []string{fmt.Sprintf("error %d %d", at+1, e)}
			}
			for _, line := range list {
				want += line + "\n"
			}
		}
		prints(t, text, want)
	}
}
