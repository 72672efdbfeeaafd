package symbol_test

import (
	"math/big"
	"strings"
	"testing"

	"pentode/api"
	"pentode/symbol"
	"pentode/value"
)

// near is a number from 0 to 1.
func (g *numbers) near() value.Num {
	x, _ := value.Ratio(int64(g.below(8)), 8)
	return x
}

// positive is a box of spans above 0, often wide.
func (g *numbers) positive(n int) []value.Span {
	var box []value.Span
	for range n {
		box = append(box, value.Span{Lo: g.above(), Hi: g.above()})
	}
	return box
}

func TestP5_5Low(t *testing.T) {
	for _, c := range []struct{ p, box, want string }{
		{"1 0", "-5 5", "1"}, {"-3 0", "1 2", "3"}, {"1 1", "1 2", "1"}, {"1 1", "-1 2", "0"}, {"1 1", "-3 -2", "2"}, {"1 1", "0 2", "0"}, {"", "1 2", "0"},
		// s^2 is -w^2: 3 - w^2 is from -1 to 2, and from 2 to 11/4
		{"3 0, 1 2", "1 2", "0"}, {"3 0, 1 2", "1 1/2", "2"},
		{"1 2", "2 3", "4"}, {"1 3", "2 3", "8"}, {"1 4", "2 3", "16"}, {"1 5", "2 3", "32"}, {"1 0, 1 4", "1 2", "2"},
		// w - w^3 for 2 to 3 is from 2 - 27 to 3 - 8
		{"1 1, 1 3", "2 3", "5"}, {"1 1, 1 5", "1 2", "2"},
		// the greater one of both parts
		{"1 0, 3 1", "1 2", "3"}, {"4 0, 3 1", "1 2", "4"}, {"4 0, -4 0, 3 1", "1 2", "3"},
		{"1 0 1, 1 1 0", "1 2 5 7", "5"}, {"1 0 1, 1 1 0", "9 8 5 7", "8"},
	} {
		if x, e := symbol.Low(terms(c.p), spans(t, c.box)); string(value.Text(x)) != c.want || e != api.OK {
			t.Errorf("Low(%s over %s) = %s, %d", c.p, c.box, value.Text(x), e)
		}
	}
	g := newNumbers()
	some := 0
	for range 400 {
		vars := 1 + g.below(3)
		p, box := g.terms(g.below(9), vars, 6), g.positive(vars)
		if g.below(2) == 0 {
			box = g.spans(vars)
		}
		x, e := symbol.Low(p, box)
		if string(value.Text(x)) != formOf(p).low(pairs(box)).RatString() || e != api.OK {
			t.Fatalf("Low(%s over %s) = %s, %d", text(p), showBox(box), value.Text(x), e)
		}
		some += value.Sign(x)
	}
	if some < 100 {
		t.Errorf("%d low sizes above 0", some)
	}
}

func TestP5_5Drop(t *testing.T) {
	for _, c := range []struct{ p, box, eps, want, bound string }{
		{"1 0, 1 1, 1/1000 2", "1 2", "1/100", "1 0, 1 1", "1/250"},
		{"1 0, 1 1, 1/1000 2", "2 1", "1/250", "1 0, 1 1", "1/250"},
		{"1 0, 1 1, 1/1000 2", "1 2", "1/251", "1 0, 1 1, 1/1000 2", "0"},
		{"5 0, 1 2", "0 1", "0", "5 0, 1 2", "0"},
		// a term that weighs nothing is left out even then
		{"5 0, 1 2", "0 0", "0", "5 0", "0"},
		// of several of the same weight the first ones, as many as there is room for: the low size is 100 - 1 - 1 - 1
		{"100 0 0, 1 0 1, 1 0 3, 1 0 5", "0 1 -1 1", "1/97", "100 0 0, 1 0 3, 1 0 5", "1/97"},
		{"100 0 0, 1 0 1, 1 0 3, 1 0 5", "0 1 -1 1", "2/97", "100 0 0, 1 0 5", "2/97"},
		{"100 0 0, 1 0 1, 1 0 3, 1 0 5", "0 1 -1 1", "3/98", "100 0 0, 1 0 5", "2/97"},
		{"100 0 0, 1 0 5, 1 0 1, 1 0 3", "0 1 -1 1", "2/97", "100 0 0, 1 0 5", "2/97"},
		{"100 0 0, 1 0 5, 1 0 1, 1 0 3", "0 1 -1 1", "99/100", "100 0 0", "3/97"},
		// those with the least weight first, wherever they stand; none after the first one that there is no room for
		{"100 0 0, 3 0 1, 1 0 3, 2 0 5", "0 1 -1 1", "3/94", "100 0 0, 3 0 1", "3/94"},
		{"100 0 0, 3 0 1, 1 0 3, 2 0 5", "0 1 -1 1", "5/94", "100 0 0, 3 0 1", "3/94"},
		// the weight is the greatest size over the box, also of negative numbers
		{"10 0 0, -4 0 1", "0 1 -1/2 1", "1/2", "10 0 0, -4 0 1", "0"},
		{"10 0 0, -4 0 1", "0 1 -1 1/2", "2/3", "10 0 0", "1/2"},
		// terms with the same powers are one
		{"100 0, 1 1, -1 1, 1 2", "0 1", "1/2", "100 0", "1/99"},
	} {
		q, bound, e := symbol.Drop(terms(c.p), spans(t, c.box), num(t, api.Val(c.eps)))
		if text(q) != c.want || string(value.Text(bound)) != c.bound || e != api.OK {
			t.Errorf("Drop(%s over %s, %s) = %s, %s, %d", c.p, c.box, c.eps, text(q), value.Text(bound), e)
		}
	}
}

func TestP5_5Definitions(t *testing.T) {
	g := newNumbers()
	some := 0
	for range 400 {
		vars := 1 + g.below(3)
		p, q, box, eps := g.terms(1+g.below(9), vars, 5), g.terms(1+g.below(9), vars, 5), g.positive(vars), g.near()
		kept, bound := formOf(p).dropped(pairs(box), frac(value.Text(eps)))
		got, b, e := symbol.Drop(p, box, eps)
		if kept == nil {
			if e != api.ErrNone || got != nil || value.Sign(b) != 0 {
				t.Fatalf("Drop(%s over %s) = %s, %s, %d", text(p), showBox(box), text(got), value.Text(b), e)
			}
		} else if text(got) != kept.text(vars) || string(value.Text(b)) != bound.RatString() || e != api.OK {
			t.Fatalf("Drop(%s over %s, %s) = %s, %s, %d", text(p), showBox(box), value.Text(eps), text(got), value.Text(b), e)
		}
		below, other := formOf(q).dropped(pairs(box), frac(value.Text(eps)))
		top, bottom, both, e := symbol.Simplify(p, q, box, eps)
		if kept == nil || below == nil {
			if e != api.ErrNone || top != nil || bottom != nil || value.Sign(both) != 0 {
				t.Fatalf("Simplify(%s, %s over %s) = %d", text(p), text(q), showBox(box), e)
			}
			continue
		}
		want := divided(plus(bound, other), minus(ratio(1, 1), other))
		if text(top) != kept.text(vars) || text(bottom) != below.text(vars) || string(value.Text(both)) != want.RatString() || e != api.OK {
			t.Fatalf("Simplify(%s, %s over %s, %s) = %s, %s, %s, %d", text(p), text(q), showBox(box), value.Text(eps), text(top), text(bottom), value.Text(both), e)
		}
		some++
	}
	if some < 50 {
		t.Errorf("%d transfer functions", some)
	}
}

func TestP5_5Errors(t *testing.T) {
	long := strings.Repeat("9", 1000)
	for _, c := range []struct {
		p, box, eps string
		low, drop   api.Errno
	}{
		{"1 0", "1 2", "1/2", api.OK, api.OK}, {"1 0", "1 2", "0", api.OK, api.OK}, {"1 0", "1 2", "99/100", api.OK, api.OK},
		{"1 0", "1 2", "1", api.OK, api.ErrRange}, {"1 0", "1 2", "2", api.OK, api.ErrRange}, {"1 0", "1 2", "-1/9", api.OK, api.ErrRange},
		{"", "", "1/2", api.ErrRange, api.ErrRange}, {"3", "", "1/2", api.ErrRange, api.ErrRange}, {"x", "", "1/2", api.ErrForm, api.ErrForm}, {"1 0", "", "2", api.ErrArg, api.ErrArg},
		{"", "1 2", "1/2", api.OK, api.ErrNone}, {"", "1 2", "1", api.OK, api.ErrRange}, {"1 1", "0 2", "1/2", api.OK, api.ErrNone}, {"1 1, -1 1", "1 2", "1/2", api.OK, api.ErrNone},
		// what is left is too long; what is left out may be
		{long + " 0, 1 0", "1 2", "1/2", api.OK, api.ErrLong}, {long + " 0", "1 2", "1/2", api.OK, api.OK},
		{"9 0, 1/" + long + " 1, 1/2 1", "1 2", "1/2", api.OK, api.OK}, {"9 0, 1/" + long + " 1, 1/2 1", "1 2", "1/100", api.OK, api.ErrLong},
	} {
		p, box, eps := terms(c.p), spans(t, c.box), num(t, api.Val(c.eps))
		if x, e := symbol.Low(p, box); e != c.low || e != api.OK && value.Sign(x) != 0 {
			t.Errorf("Low(%.30s over %s) = %.30s, %d", c.p, c.box, value.Text(x), e)
		}
		if q, b, e := symbol.Drop(p, box, eps); e != c.drop || e != api.OK && (q != nil || value.Sign(b) != 0) {
			t.Errorf("Drop(%.30s over %s, %s) = %.30s, %.30s, %d", c.p, c.box, c.eps, text(q), value.Text(b), e)
		}
		// Simplify has the same errors, wherever they are.
		good := []api.SyTerm{{Coef: "1", Pows: make([]int, len(box))}}
		for i := range 2 {
			pair := [2][]api.SyTerm{good, p}
			top, bottom, b, e := symbol.Simplify(pair[i], pair[1-i], box, eps)
			if e != c.drop || e != api.OK && (top != nil || bottom != nil || value.Sign(b) != 0) {
				t.Errorf("Simplify(%.30s over %s, %s) = %.30s, %.30s, %.30s, %d", c.p, c.box, c.eps, text(top), text(bottom), value.Text(b), e)
			}
		}
	}
	// The error of Drop for the numerator comes before that for the denominator, but after those of Check for both.
	for _, c := range []struct {
		num, den string
		want     api.Errno
	}{{long + " 0, 1 0", "", api.ErrLong}, {"", long + " 0, 1 0", api.ErrNone}, {"", "x 0", api.ErrForm}, {long + " 0, 1 0", "1", api.ErrArg}} {
		if _, _, _, e := symbol.Simplify(terms(c.num), terms(c.den), spans(t, "1 2"), value.Int(0)); e != c.want {
			t.Errorf("Simplify(%.30s, %.30s) = %d", c.num, c.den, e)
		}
	}
	if x, e := symbol.Low(nil, make([]value.Span, 9)); e != api.ErrRange || value.Sign(x) != 0 {
		t.Errorf("Low with 9 variables = %d", e)
	}
}

// P5.11: differences are within the bounds, at frequencies and numbers of the box.
func TestP5_11(t *testing.T) {
	g := newNumbers()
	some := 0
	for range 400 {
		vars := 1 + g.below(3)
		p, q, box, eps := g.terms(1+g.below(9), vars, 5), g.terms(1+g.below(9), vars, 5), g.positive(vars), g.near()
		top, bottom, bound, e := symbol.Simplify(p, q, box, eps)
		if e != api.OK {
			continue
		}
		some++
		_, a, _ := symbol.Drop(p, box, eps)
		if value.Cmp(a, eps) > 0 {
			t.Fatalf("Drop(%s over %s, %s) has the bound %s", text(p), showBox(box), value.Text(eps), value.Text(a))
		}
		n, d, m, f := formOf(p), formOf(q), formOf(top), formOf(bottom)
		for range 8 {
			x := fracs(g.point(box))
			// The size of the difference is at most the bound times that of what it is from; both squared.
			within := func(difference, from form, bound value.Num) bool {
				b := frac(value.Text(bound))
				return difference.squareAt(x).Cmp(times(times(b, b), from.squareAt(x))) <= 0
			}
			if !within(n.minus(m), n, a) {
				t.Fatalf("%s and %s differ by more than %s at %v", text(p), text(top), value.Text(a), x)
			}
			// n / d - m / f, over n / d, is (n f - m d) / (n f).
			if d.squareAt(x).Cmp(new(big.Rat)) != 0 && !within(n.times(f).minus(m.times(d)), n.times(f), bound) {
				t.Fatalf("%s / %s and %s / %s differ by more than %s at %v", text(p), text(q), text(top), text(bottom), value.Text(bound), x)
			}
		}
	}
	if some < 50 {
		t.Errorf("%d transfer functions", some)
	}
}
