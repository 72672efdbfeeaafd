package poly_test

import (
	"testing"

	"pentode/api"
	"pentode/poly"
	"pentode/value"
)

// The tests of this file are the lines of the chapter's table of examples.

func TestExamplesOfArithmetic(t *testing.T) {
	l := func(s string) []value.Num { return list(t, s) }
	if got := text(poly.Mul(l("1 1"), l("-1 1"))); got != "-1 0 1" {
		t.Errorf("Mul = %s", got)
	}
	if got := text(poly.Deriv(l("5 0 3"))); got != "0 6" {
		t.Errorf("Deriv = %s", got)
	}
	if got := value.Text(poly.Eval(l("2 -3 1"), value.Int(3))); got != "2" {
		t.Errorf("Eval = %s", got)
	}
	if got := spanText(poly.EvalSpan(l("2 -3 1"), span(t, "0", "2"))); got != "-4:2" {
		t.Errorf("EvalSpan = %s", got)
	}
	if q, r, e := poly.Div(l("-1 0 0 1"), l("-1 1")); e != api.OK || text(q) != "1 1 1" || len(r) != 0 {
		t.Errorf("Div = %s, %s, %d", text(q), text(r), e)
	}
	if g, e := poly.Gcd(l("2 -3 1"), l("-2 2")); e != api.OK || text(g) != "-1 1" {
		t.Errorf("Gcd = %s, %d", text(g), e)
	}
	if m, e := poly.Parts(l("0 0 1 1")); e != api.OK || texts(m) != "1 1, 0 1" {
		t.Errorf("Parts = %s, %d", texts(m), e)
	}
}

func TestExamplesOfRoots(t *testing.T) {
	p := list(t, "2 -3 1")
	if b, e := poly.Bound(p); e != api.OK || value.Text(b) != "4" {
		t.Errorf("Bound = %s, %d", value.Text(b), e)
	}
	for _, lo := range []int64{0, 1} {
		if n, e := poly.Count(p, value.Int(lo), value.Int(lo+1)); e != api.OK || n != 1 {
			t.Errorf("Count above %d = %d, %d", lo, n, e)
		}
	}
	for _, c := range []struct {
		p    string
		bits int
		want string
	}{{"-2 0 1", 0, "-2:-1 1:2"}, {"2 -3 1", 3, "1:1 2:2"}, {"1 0 1", 0, ""}} {
		if l, e := poly.Roots(list(t, c.p), c.bits); e != api.OK || spanTexts(l) != c.want {
			t.Errorf("Roots(%s, %d) = %s, %d", c.p, c.bits, spanTexts(l), e)
		}
	}
	p = list(t, "-2 0 1")
	for _, c := range []struct {
		lo, q string
		sign  int
		e     api.Errno
	}{{"1", "-3 2", -1, api.OK}, {"1", "-2 0 1", 0, api.OK}, {"-2", "1", 0, api.ErrRange}} {
		if s, e := poly.SignAt(p, span(t, c.lo, "2"), list(t, c.q)); s != c.sign || e != c.e {
			t.Errorf("SignAt(%s, %s) = %d, %d", c.lo, c.q, s, e)
		}
	}
	for _, c := range []struct {
		p, lo, hi string
		sign      int
	}{{"1 0 1", "-5", "5", 1}, {"-2 0 1", "0", "1", -1}, {"0 1", "0", "1", 0}} {
		if s, e := poly.Positive(list(t, c.p), span(t, c.lo, c.hi)); s != c.sign || e != api.OK {
			t.Errorf("Positive(%s) = %d, %d", c.p, s, e)
		}
	}
}

func TestExamplesOfThePlane(t *testing.T) {
	for _, c := range []struct {
		p           string
		right, axis int
	}{{"1 2 1", 0, 0}, {"-1 0 1", 1, 0}, {"1 0 1", 0, 2}, {"1 1 1 1 1", 2, 0}} {
		if right, axis, e := poly.Routh(list(t, c.p)); e != api.OK || right != c.right || axis != c.axis {
			t.Errorf("Routh(%s) = %d, %d, %d", c.p, right, axis, e)
		}
	}
	for _, c := range []struct {
		p, lo, hi string
		n         int
		e         api.Errno
	}{{"1 0 1", "0", "2", 1, api.OK}, {"1 0 1", "1", "2", 0, poly.ErrEdge}, {"0 0 1", "-1", "1", 2, api.OK}} {
		if n, e := poly.Rect(list(t, c.p), span(t, "-1", "1"), span(t, c.lo, c.hi)); n != c.n || e != c.e {
			t.Errorf("Rect(%s, %s to %s) = %d, %d", c.p, c.lo, c.hi, n, e)
		}
	}
}
