package symbol_test

import (
	"testing"

	"pentode/api"
	"pentode/symbol"
	"pentode/value"
)

// The examples of the chapter, row by row.
func TestExamplesOfPolynomials(t *testing.T) {
	if p, e := symbol.Canon(terms("1 1, 2 0, -1 1"), 1); text(p) != "2 0" || e != api.OK {
		t.Errorf("Canon = %s, %d", text(p), e)
	}
	if p, e := symbol.Mul(terms("1 0, 1 1"), terms("1 0, -1 1"), 1); text(p) != "1 0, -1 2" || e != api.OK {
		t.Errorf("Mul = %s, %d", text(p), e)
	}
	if p, e := symbol.Diff(terms("5 3"), 1, 0); text(p) != "15 2" || e != api.OK {
		t.Errorf("Diff = %s, %d", text(p), e)
	}
	if x, e := symbol.Eval(terms("2 1 2"), nums(t, "3 1/2")); value.Text(x) != "3/2" || e != api.OK {
		t.Errorf("Eval = %s, %d", value.Text(x), e)
	}
	if s, e := symbol.Reach(terms("1 2, -1 1"), spans(t, "0 2")); showSpan(s) != "-2 4" || e != api.OK {
		t.Errorf("Reach = %s, %d", showSpan(s), e)
	}
}

func TestExamplesOfTransferFunctions(t *testing.T) {
	num, den, e := symbol.Transfer(divider(t))
	if text(num) != "-1 0 1 0" || text(den) != "-1 0 1 0, -1 1 0 1" || e != api.OK {
		t.Errorf("Transfer = %s, %s, %d", text(num), text(den), e)
	}
	if p, q, e := symbol.Ratio(divider(t)); show(p) != "-1/2" || show(q) != "-1/2 -3" || e != api.OK {
		t.Errorf("Ratio = %s, %s, %d", show(p), show(q), e)
	}
	if top, bottom, e := symbol.Sense(num, den, 3, 2); text(top) != "-1 1 1 1" || text(bottom) != "1 0 2 0, 1 1 1 1" || e != api.OK {
		t.Errorf("Sense = %s, %s, %d", text(top), text(bottom), e)
	}
	eps, _ := value.Ratio(1, 100)
	q, bound, e := symbol.Drop(terms("1 0, 1 1, 1/1000 2"), spans(t, "1 2"), eps)
	if text(q) != "1 0, 1 1" || value.Text(bound) != "1/250" || e != api.OK {
		t.Errorf("Drop = %s, %s, %d", text(q), value.Text(bound), e)
	}
}

func TestExamplesOfTwoPorts(t *testing.T) {
	p, e := symbol.Port(read(t, "r r1 1 2 2; r r2 2 0 3"), [4]int{1, 0, 2, 0})
	if showPort(p) != "1: 5; 3; 3; 3; 1" || e != api.OK {
		t.Errorf("Port = %s, %d", showPort(p), e)
	}
	if q, e := symbol.Convert(p, api.PoA); showPort(q) != "5: 5/3; 2; 1/3; 1; 1" || e != api.OK {
		t.Errorf("Convert to PoA = %s, %d", showPort(q), e)
	}
	if q, e := symbol.Convert(p, api.PoY); showPort(q) != "2: 1/2; -1/2; -1/2; 5/6; 1" || e != api.OK {
		t.Errorf("Convert to PoY = %s, %d", showPort(q), e)
	}
	if q, e := symbol.Convert(port(api.PoZ, "1; 1; 1; 1; 1"), api.PoY); showPort(q) != "0: ; ; ; ; " || e != api.ErrSingular {
		t.Errorf("Convert = %s, %d", showPort(q), e)
	}
	if q, e := symbol.Join(p, p, api.PoA); showPort(q) != "5: 31/9; 16/3; 8/9; 5/3; 1" || e != api.OK {
		t.Errorf("Join = %s, %d", showPort(q), e)
	}
}

// The sixth example of the document: g / (g + s c).
func TestExampleOfTheDocument(t *testing.T) {
	num, den, e := symbol.Transfer(divider(t))
	if e != api.OK {
		t.Fatal(e)
	}
	for _, at := range []string{"1 1 1", "-3 1/2 7", "0 5 1/9"} {
		x := nums(t, at)
		a, _ := symbol.Eval(num, x)
		b, _ := symbol.Eval(den, x)
		got, _ := value.Div(a, b)
		want, _ := value.Div(x[1], value.Add(x[1], value.Mul(x[0], x[2])))
		if value.Cmp(got, want) != 0 {
			t.Errorf("at %s the transfer function is %s", at, value.Text(got))
		}
	}
}
