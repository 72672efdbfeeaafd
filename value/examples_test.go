package value_test

import (
	"math/big"
	"strings"
	"testing"

	"pentode/api"
	"pentode/value"
)

// The tests of this file are the lines of the chapter's table of examples.

func TestExamplesOfTexts(t *testing.T) {
	for s, want := range map[api.Val]api.Errno{"-3/8": api.OK, "5": api.OK, "0": api.OK, "6/8": api.ErrForm, "-0": api.ErrForm, "05": api.ErrForm, "3/1": api.ErrForm, "0/3": api.ErrForm, "+1": api.ErrForm, "1/": api.ErrForm} {
		if e := value.Check(s); e != want {
			t.Errorf("Check(%s) = %d, want %d", s, e, want)
		}
	}
	for s, want := range map[string]string{"4.7k": "4700", "-100n": "-1/10000000", "007": "7", "0.007k": "7", "1/3": "1/3", ".5": "", "1.": "", "2K": "", "1e3": "", "3 k": ""} {
		x, e := value.Read(s)
		if want == "" && e != api.ErrForm || want != "" && (e != api.OK || text(x) != want) {
			t.Errorf("Read(%s) = %s, %d, want %s", s, text(x), e, want)
		}
	}
	million := new(big.Int).Exp(big.NewInt(10), big.NewInt(18), nil)
	for s, want := range map[string]string{"4700": "4.7k", "1/3": "1/3", "-1/10000000": "-100n", "1000": "1k", "999": "999", "1/2000000000000000": "0.5f", million.String(): "1000000T", "0": "0", "1/1024": "976.5625u"} {
		if got := value.Show(parse(t, s)); got != want {
			t.Errorf("Show(%s) = %s, want %s", s, got, want)
		}
	}
}

func TestExamplesOfNumbers(t *testing.T) {
	if x, e := value.Ratio(6, -8); e != api.OK || text(x) != "-3/4" {
		t.Errorf("Ratio(6, -8) = %s, %d", text(x), e)
	}
	if x, e := value.Pow(parse(t, "2/3"), -2); e != api.OK || text(x) != "9/4" {
		t.Errorf("Pow(2/3, -2) = %s, %d", text(x), e)
	}
	if _, e := value.Div(value.Int(1), value.Int(0)); e != api.ErrZero {
		t.Errorf("Div(1, 0) = %d", e)
	}
	got := []string{
		text(value.Down(parse(t, "1/3"), 3)), text(value.Up(parse(t, "1/3"), 3)), text(value.Down(parse(t, "-1/3"), 3)), text(value.Up(value.Int(7), 2)),
		text(value.Floor(parse(t, "-3/8"))), text(value.Ceil(parse(t, "-3/8"))),
	}
	if l := strings.Join(got, "; "); l != "5/16; 3/8; -3/8; 8; -1; 0" {
		t.Errorf("Down, Up, Floor, Ceil = %s", l)
	}
}

func TestExamplesOfSpans(t *testing.T) {
	if got := spanText(value.SpanMul(span(t, "-1", "2"), span(t, "-3", "5"))); got != "-6 to 10" {
		t.Errorf("SpanMul = %s", got)
	}
	if got := spanText(value.SpanPow(span(t, "-3", "2"), 2)); got != "0 to 9" {
		t.Errorf("SpanPow = %s", got)
	}
	if _, e := value.SpanDiv(span(t, "1", "2"), span(t, "-1", "1")); e != api.ErrZero {
		t.Errorf("SpanDiv = %d", e)
	}
	a, b := span(t, "0", "1"), span(t, "3", "2")
	if m, is := value.SpanMeet(a, b); is || spanText(m) != "0 to 0" {
		t.Errorf("SpanMeet = %s, %v", spanText(m), is)
	}
	if got := spanText(value.SpanJoin(a, b)); got != "0 to 3" {
		t.Errorf("SpanJoin = %s", got)
	}
	if got := text(value.SpanMid(span(t, "3", "0"))); got != "3/2" {
		t.Errorf("SpanMid = %s", got)
	}
}
