package desk_test

import (
	"testing"

	"pentode/api"
)

// The examples of the chapter, row by row.
func TestExamplesOfLines(t *testing.T) {
	w := read(t, tunnel)
	answers(t, w, "unknowns", "unknowns v:1 v:2 i:v1")
	answers(t, w, "exact", "point 5/2 5/6 -5/6; point 5/2 3/2 -1/2; point 5/2 13/6 -1/6")
	fails(t, w, "loop", api.ErrNone)
	fails(t, w, "cut dc", api.ErrNone)
	answers(t, w, "stable 5/2 3/2 -1/2", "stable 0 0")
	fails(t, w, "stable 5/2 3/2", api.ErrArg)
	fails(t, w, "ratio v1 v:3", api.ErrNone)
	answers(t, w, "ladder 1 1 1 2 1", "v e1 n1 0 1; l e2 n1 n2 2; c e3 n2 0 1/2; r e4 n2 0 1")
	answers(t, w, "", "")
	answers(t, w, "*", "")
	fails(t, w, "x", api.ErrForm)
}

func TestExamplesOfScripts(t *testing.T) {
	for commands, want := range map[string]string{
		"loop; cut dc":              "error 1 4\nerror 2 4\n",
		"stable 5/2 3/2; ; * x; x":  "error 1 2\nerror 4 6\n",
		"ratio v1 v:3; unknowns":    "error 1 4\nunknowns v:1 v:2 i:v1\n",
		"unknowns; exact; unknowns": "unknowns v:1 v:2 i:v1\npoint 5/2 5/6 -5/6\npoint 5/2 3/2 -1/2\npoint 5/2 13/6 -1/6\nunknowns v:1 v:2 i:v1\n",
	} {
		if out := run(t, lines(tunnel)+"run\n"+lines(commands)); out != want {
			t.Errorf("the output of %q is %q, not %q", commands, out, want)
		}
	}
}

// The examples of the document as a whole, as far as the desk has them.
func TestExamplesOfTheDocument(t *testing.T) {
	stored := read(t, tunnel+"; c c1 2 0 1")
	answers(t, stored, "stable 5/2 5/6 -5/6", "stable 0 0")
	answers(t, stored, "stable 5/2 3/2 -1/2", "stable 1 0")
	answers(t, stored, "stable 5/2 13/6 -1/6", "stable 0 0")
	rc := read(t, decay)
	answers(t, rc, "wave 1 2 0 20 1", "at 1 1/2; at 2 1/4")
	answers(t, rc, "enclose 1/8 1 20 1 1", "box 903/1024 113/128")
	series := read(t, ladder2)
	answers(t, series, "transfer v1 v:2 r1 c1", "num -1 0 1 0; den -1 0 1 0; den -1 1 0 1")
	answers(t, read(t, divider), "worst v:b and r1 1 3 r2 1/2 3/2", "worst 12/7 36/5 1 2")
	part := "sub div a b with k 2; r top a m 1k; r low m b { k * 1k }; ends; v v1 in 0 5; x x1 in 0 div with k 3"
	answers(t, read(t, part), "exact", "point 5 15/4 -1/800")
}
