package wave_test

import (
	"slices"
	"testing"

	"pentode/api"
	"pentode/value"
	"pentode/wave"
)

// The examples of the chapter, row by row.
func TestExamplesOfSteps(t *testing.T) {
	n, one := decay(t), value.Int(1)
	from, to := nums(t, "1"), nums(t, "1/2")
	if r, e := wave.Residual(n, from, to, one); show(r) != "0" || e != api.OK {
		t.Errorf("Residual = %s, %d", show(r), e)
	}
	if y, r, e := wave.Step(n, from, one, value.Int(0), 20); show(y) != "1/2" || show(r) != "0" || e != api.OK {
		t.Errorf("Step = %s, %s, %d", show(y), show(r), e)
	}
	if p, e := wave.Power(n, from, to, one); show(p) != "1/4 -1/4" || e != api.OK {
		t.Errorf("Power = %s, %d", show(p), e)
	}
	l, e := wave.Run(api.WvTask{Net: n, Start: words("1"), Step: "1", End: "2", Tol: "0", Bits: 20})
	if showSteps(l) != "1: 1/2; 2: 1/4" || e != api.OK {
		t.Fatalf("Run = %v, %d", l, e)
	}
	for level, want := range map[api.Val]api.WvCross{"3/4": {Step: 0, Time: "1/2"}, "1/2": {Step: 0, Time: "1"}} {
		if c, e := wave.Cross(l, words("1"), 1, 0, level); !slices.Equal(c, []api.WvCross{want}) || e != api.OK {
			t.Errorf("Cross of %s = %v, %d", level, c, e)
		}
	}
}

func TestExamplesOfEnclosures(t *testing.T) {
	for _, c := range []struct {
		n      api.Net
		box    string
		h      api.Val
		steps  int
		result string
		e      api.Errno
	}{
		{ramp(t), "0 0", "1", 2, "1/2 1/2; 1 1", api.OK},
		{decay(t), "1 1", "1/8", 1, "903/1024 113/128", api.OK},
		{read(t, "v v1 1 0 1; c c1 1 0 1"), "0 0 0 0", "1", 1, "", wave.ErrKind},
	} {
		if l, e := wave.Enclose(c.n, ranges(c.box), c.h, c.steps, 20); showBoxes(l) != c.result || e != c.e {
			t.Errorf("Enclose from %s = %s, %d", c.box, showBoxes(l), e)
		}
	}
	for _, c := range []struct {
		n    api.Net
		box  string
		trap bool
	}{{decay(t), "-1 1", true}, {decay(t), "1 2", false}, {ramp(t), "0 1", false}} {
		if trap, e := wave.Trap(c.n, ranges(c.box)); trap != c.trap || e != api.OK {
			t.Errorf("Trap of %s = %t, %d", c.box, trap, e)
		}
	}
}

// The fifth example of the document: a resistor 1 at the operating points of W.
func TestExampleOfTheDocument(t *testing.T) {
	n := read(t, "r r1 1 0 1")
	for at, want := range map[string]string{"5/6": "25/36", "3/2": "9/4", "13/6": "169/36"} {
		if p, e := wave.Power(n, nums(t, "0"), nums(t, at), value.Int(1)); show(p) != want || e != api.OK {
			t.Errorf("Power at %s = %s, %d", at, show(p), e)
		}
	}
}
