package symbol_test

import (
	"fmt"
	"slices"
	"strings"
	"testing"

	"pentode/api"
	"pentode/symbol"
	"pentode/value"
)

// many is a polynomial of so many terms with the Coef 1 and three variables, from the powers 0 on.
func many(count int) []api.SyTerm {
	p := make([]api.SyTerm, count)
	for i := range p {
		p[i] = api.SyTerm{Coef: "1", Pows: []int{i % 10, i / 10 % 10, i / 100}}
	}
	return p
}

func TestP5_1Check(t *testing.T) {
	for _, c := range []struct {
		p    string
		vars int
		want api.Errno
	}{
		{"", 0, api.OK}, {"", 8, api.OK}, {"", 9, api.ErrRange}, {"", -1, api.ErrRange},
		{"1", 0, api.OK}, {"1 2", 1, api.OK}, {"1 2 3", 2, api.OK}, {"0 0", 1, api.OK}, {"1 1 2 3 4 5 6 7 8", 8, api.OK},
		{"1 1 2 3 4 5 6 7 8 9", 9, api.ErrRange},
		{"1 0 0", 1, api.ErrArg}, {"1", 1, api.ErrArg}, {"1 1", 0, api.ErrArg},
		{"1 40", 1, api.OK}, {"1 41", 1, api.ErrRange}, {"1 -1", 1, api.ErrRange}, {"1 9223372036854775807", 1, api.ErrRange}, {"1 257", 1, api.ErrRange},
		{"1 0 -9223372036854775808", 2, api.ErrRange},
		{"2/4 0", 1, api.ErrForm}, {"x 0", 1, api.ErrForm}, {"-0 0", 1, api.ErrForm}, {"1k 0", 1, api.ErrForm},
		{string(digits(1000)) + " 0", 1, api.OK}, {string(digits(1001)) + " 0", 1, api.ErrLong}, {"1/" + string(digits(1001)) + " 0", 1, api.ErrLong},
		// of one term the error of its Coef, then the number of its powers, then a power
		{"x 41 0", 1, api.ErrForm}, {"1 41 0", 1, api.ErrArg}, {"x 41", 1, api.ErrForm},
		// the first term with an error
		{"1 0, 1 41, x 0", 1, api.ErrRange}, {"1 0, 1, 1 41", 1, api.ErrArg}, {"1 0, x 0, 1", 1, api.ErrForm},
	} {
		if e := symbol.Check(terms(c.p), c.vars); e != c.want {
			t.Errorf("Check(%.60s, %d) = %d, not %d", c.p, c.vars, e, c.want)
		}
	}
	for _, c := range []struct {
		count, vars int
		want        api.Errno
	}{{2000, 3, api.OK}, {2001, 3, api.ErrLong}, {2001, 1, api.ErrLong}, {2001, 9, api.ErrRange}} {
		if e := symbol.Check(many(c.count), c.vars); e != c.want {
			t.Errorf("Check(%d terms, %d) = %d, not %d", c.count, c.vars, e, c.want)
		}
	}
	if e := symbol.Check(make([]api.SyTerm, 2001), 0); e != api.ErrLong {
		t.Errorf("Check of terms that are not valid, and too many = %d", e)
	}
}

// All functions with polynomials return the error of Check, of the first polynomial that has one, before any other error.
func TestP5_1ErrorsOfCheck(t *testing.T) {
	good, form, arg := terms("1 1"), terms("x 1"), terms("1 1 1")
	one := value.Int(1)
	for _, vars := range []int{1, 9} {
		for _, c := range []struct {
			p, q        []api.SyTerm
			want, first api.Errno
		}{
			{form, good, api.ErrForm, api.ErrForm}, {good, form, api.ErrForm, 0}, {arg, form, api.ErrArg, api.ErrArg}, {form, arg, api.ErrForm, api.ErrForm},
		} {
			if vars == 9 {
				c.want, c.first = api.ErrRange, api.ErrRange
			}
			box, x := make([]value.Span, vars), make([]value.Num, vars)
			_, add := symbol.Add(c.p, c.q, vars)
			_, mul := symbol.Mul(c.p, c.q, vars)
			_, _, sense := symbol.Sense(c.p, c.q, vars, -1)
			_, _, _, simplify := symbol.Simplify(c.p, c.q, box, one)
			if add != c.want || mul != c.want || sense != c.want || simplify != c.want {
				t.Errorf("%s and %s with %d: %d, %d, %d, %d", text(c.p), text(c.q), vars, add, mul, sense, simplify)
			}
			if c.first == api.OK {
				continue
			}
			_, canon := symbol.Canon(c.p, vars)
			_, diff := symbol.Diff(c.p, vars, -1)
			_, eval := symbol.Eval(c.p, x)
			_, reach := symbol.Reach(c.p, box)
			_, low := symbol.Low(c.p, box)
			_, _, drop := symbol.Drop(c.p, box, one)
			for i, e := range []api.Errno{canon, diff, eval, reach, low, drop} {
				if e != c.first {
					t.Errorf("function %d of %s with %d: %d", i, text(c.p), vars, e)
				}
			}
		}
	}
}

func TestP5_1Canon(t *testing.T) {
	for _, c := range []struct {
		p    string
		vars int
		want string
	}{
		{"", 3, ""}, {"0 1", 1, ""}, {"1 1, -1 1", 1, ""}, {"1, 1/2", 0, "3/2"}, {"1/2 0, 1/3 0, 1/6 0", 1, "1 0"},
		{"1 0 2, 1 1 0, 1 0 1, 1 2 0, 1 0 0", 2, "1 0 0, 1 0 1, 1 0 2, 1 1 0, 1 2 0"},
		{"5 0 0 1, 4 0 1 0, 3 1 0 0", 3, "5 0 0 1, 4 0 1 0, 3 1 0 0"},
		{"7 40, 7 2, 7 10", 1, "7 2, 7 10, 7 40"},
		{"1 0 0 0 0 0 0 0 1, 1 0 0 0 0 0 0 1 0, 1 1 0 0 0 0 0 0 0", 8, "1 0 0 0 0 0 0 0 1, 1 0 0 0 0 0 0 1 0, 1 1 0 0 0 0 0 0 0"},
	} {
		if p, e := symbol.Canon(terms(c.p), c.vars); text(p) != c.want || e != api.OK {
			t.Errorf("Canon(%s) = %s, %d", c.p, text(p), e)
		}
	}
	g := newNumbers()
	for range 300 {
		vars := g.below(5)
		p := g.terms(g.below(30), vars, 1+g.below(4))
		want := formOf(p).text(vars)
		q, e := symbol.Canon(p, vars)
		if text(q) != want || e != api.OK {
			t.Fatalf("Canon(%s) = %s, %d, not %s", text(p), text(q), e, want)
		}
		if again, e := symbol.Canon(q, vars); text(again) != want || e != api.OK {
			t.Fatalf("Canon of %s = %s, %d", want, text(again), e)
		}
	}
	if p, e := symbol.Canon(many(2000), 3); len(p) != 2000 || e != api.OK {
		t.Errorf("Canon of 2000 terms = %d, %d", len(p), e)
	}
}

// What counts is how long a result is, not how long sums are on the way to it.
func TestP5_1CanonTooLong(t *testing.T) {
	nines := strings.Repeat("9", 1000)
	for _, c := range []struct {
		p    string
		want api.Errno
	}{
		{nines + " 1", api.OK}, {nines + " 1, 1 1", api.ErrLong}, {nines + " 1, 1 0", api.OK}, {nines + " 1, 1 1, -1 1", api.OK},
		{"-" + nines + " 1, -1 1", api.ErrLong},
		{"1/" + nines + " 0, 1/2 0", api.ErrLong}, {"1/" + nines + " 0, 1/2 0, -1/2 0", api.OK}, {"1/" + nines + " 0, 1/" + nines + " 0", api.OK},
	} {
		p, e := symbol.Canon(terms(c.p), 1)
		if e != c.want || e != api.OK && p != nil {
			t.Errorf("Canon(%.20s ..) = %.20s, %d", c.p, text(p), e)
		}
	}
}

func TestP5_2Sums(t *testing.T) {
	g := newNumbers()
	for range 300 {
		vars := g.below(5)
		p, q := g.terms(g.below(12), vars, 1+g.below(5)), g.terms(g.below(12), vars, 1+g.below(5))
		if s, e := symbol.Add(p, q, vars); text(s) != formOf(p).plus(formOf(q)).text(vars) || e != api.OK {
			t.Fatalf("%s plus %s = %s, %d", text(p), text(q), text(s), e)
		}
		if s, e := symbol.Mul(p, q, vars); text(s) != formOf(p).times(formOf(q)).text(vars) || e != api.OK {
			t.Fatalf("%s times %s = %s, %d", text(p), text(q), text(s), e)
		}
		for v := range vars {
			if s, e := symbol.Diff(p, vars, v); text(s) != formOf(p).slope(v).text(vars) || e != api.OK {
				t.Fatalf("%s by %d = %s, %d", text(p), v, text(s), e)
			}
		}
	}
}

func TestP5_2DiffErrors(t *testing.T) {
	for _, c := range []struct {
		vars, v int
		want    api.Errno
	}{{2, 0, api.OK}, {2, 1, api.OK}, {2, 2, api.ErrRange}, {2, -1, api.ErrRange}, {0, 0, api.ErrRange}, {8, 7, api.OK}, {8, 8, api.ErrRange}, {2, 1 << 62, api.ErrRange}} {
		p := []api.SyTerm{{Coef: "1", Pows: make([]int, c.vars)}}
		if q, e := symbol.Diff(p, c.vars, c.v); e != c.want || len(q) != 0 {
			t.Errorf("Diff by %d of %d = %s, %d", c.v, c.vars, text(q), e)
		}
	}
	for _, c := range []struct{ p, want string }{{"5 3 1, 7 0 2", "15 2 1"}, {"1 40 40", "40 39 40"}, {"1/2 2 0", "1 1 0"}, {"1 0 40", ""}} {
		if q, e := symbol.Diff(terms(c.p), 2, 0); text(q) != c.want || e != api.OK {
			t.Errorf("Diff of %s = %s, %d", c.p, text(q), e)
		}
	}
}

// results are sum, product and derivative of polynomials in two variables.
func results(p, q []api.SyTerm) (sum, product, slope []api.SyTerm, e [3]api.Errno) {
	sum, e[0] = symbol.Add(p, q, 2)
	product, e[1] = symbol.Mul(p, q, 2)
	slope, e[2] = symbol.Diff(p, 2, 0)
	return sum, product, slope, e
}

func TestP5_2TooLong(t *testing.T) {
	long, nines := string(digits(1000)), strings.Repeat("9", 1000)
	line := func(count int) string { // so many terms that only the power of the variable 1 tells apart
		var parts []string
		for i := range count {
			parts = append(parts, "1 0 "+fmt.Sprint(i))
		}
		return strings.Join(parts, ", ")
	}
	for _, c := range []struct {
		p, q string
		want [3]api.Errno
	}{
		{"1 40 0", "1 0 40", [3]api.Errno{}},
		{"1 40 0", "1 1 0", [3]api.Errno{1: api.ErrLong}},
		{"1 20 21", "1 20 20", [3]api.Errno{1: api.ErrLong}},
		{"1 20 20", "1 20 20", [3]api.Errno{}},
		{"1 40 40", "", [3]api.Errno{}},
		// these powers vanish before the product
		{"1 40 0, 1 0 0, -1 40 0", "1 40 0", [3]api.Errno{}},
		{nines + " 1 0", "1 0 0", [3]api.Errno{}},
		{nines + " 1 0", "1 1 0", [3]api.Errno{0: api.ErrLong}},
		{nines + " 1 0", "2 0 0", [3]api.Errno{1: api.ErrLong}},
		{long + " 10 0", "1 0 0", [3]api.Errno{2: api.ErrLong}},
		{long + " 9 0", "1 0 0", [3]api.Errno{}},
		{"1/" + long + " 10 0", "1/10 0 0", [3]api.Errno{1: api.ErrLong}},
		// the long sums of p do not come up in the product, or in the derivative
		{nines + " 0 0, 1 0 0, 1 1 0", "0 0 0", [3]api.Errno{0: api.ErrLong}},
		{line(41), line(41), [3]api.Errno{1: api.ErrLong}},
		{line(41), "1 0 0, 1 1 0", [3]api.Errno{}},
	} {
		sum, product, slope, e := results(terms(c.p), terms(c.q))
		if e != c.want {
			t.Errorf("%.40s and %.40s: %v, not %v", c.p, c.q, e, c.want)
		}
		for i, p := range [][]api.SyTerm{sum, product, slope} {
			if e[i] != api.OK && p != nil {
				t.Errorf("%.40s and %.40s: %.40s with the error %d", c.p, c.q, text(p), e[i])
			}
		}
	}
}

// As many terms as there may be, and one more.
func TestP5_2TooManyTerms(t *testing.T) {
	flat, other := make([]api.SyTerm, 40), make([]api.SyTerm, 50)
	for i := range flat {
		flat[i] = api.SyTerm{Coef: "1", Pows: []int{i, 0, 0, 0}}
	}
	for i := range other {
		other[i] = api.SyTerm{Coef: "1", Pows: []int{0, i % 10, i / 10, 0}}
	}
	if p, e := symbol.Mul(flat, other, 4); len(p) != 2000 || e != api.OK {
		t.Errorf("a product of 2000 terms: %d, %d", len(p), e)
	}
	more := append(slices.Clone(other), api.SyTerm{Coef: "1", Pows: []int{1, 0, 0, 1}})
	if p, e := symbol.Mul(flat, more, 4); p != nil || e != api.ErrLong {
		t.Errorf("a product of 2040 terms: %d, %d", len(p), e)
	}
	if p, e := symbol.Add(many(2000), many(2000), 3); len(p) != 2000 || e != api.OK {
		t.Errorf("the double of 2000 terms: %d, %d", len(p), e)
	}
	if p, e := symbol.Add(many(2000), terms("1 40 40 40"), 3); p != nil || e != api.ErrLong {
		t.Errorf("a sum of 2001 terms: %d, %d", len(p), e)
	}
	if p, e := symbol.Add(many(2000), terms("1 40 40 40, -1 0 0 0"), 3); len(p) != 2000 || e != api.OK {
		t.Errorf("a sum in which one vanishes: %d, %d", len(p), e)
	}
	// (1 + x + .. + x^39) (1 + y + .. + y^40) (1 - x): of 3280 products few are left.
	var square []api.SyTerm
	for i := range 1640 {
		square = append(square, api.SyTerm{Coef: "1", Pows: []int{i % 40, i / 40}})
	}
	if p, e := symbol.Mul(square, terms("1 0 0, -1 1 0"), 2); len(p) != 82 || e != api.OK {
		t.Errorf("a product in which most vanish: %d, %d", len(p), e)
	}
}

func TestP5_2Eval(t *testing.T) {
	for _, c := range []struct{ p, x, want string }{
		{"2 1 2", "3 1/2", "3/2"}, {"", "", "0"}, {"", "1 2", "0"}, {"3, 4", "", "7"}, {"1 0", "0", "1"}, {"1 40", "-2", "1099511627776"},
		{"1 1, -1 1", "7", "0"}, {"1 3", "-1/2", "-1/8"}, {"1 1 2 3", "2 3 5", "2250"},
	} {
		if x, e := symbol.Eval(terms(c.p), nums(t, c.x)); string(value.Text(x)) != c.want || e != api.OK {
			t.Errorf("Eval(%s at %s) = %s, %d", c.p, c.x, value.Text(x), e)
		}
	}
	// Values have no limit of digits, and neither have the numbers.
	square := value.Mul(num(t, digits(1000)), num(t, digits(1000)))
	if x, e := symbol.Eval(terms("1 2"), []value.Num{square}); value.Digits(x) != 3997 || e != api.OK {
		t.Errorf("Eval = %d digits, %d", value.Digits(x), e)
	}
	g := newNumbers()
	for range 300 {
		vars := g.below(5)
		p, x := g.terms(g.below(12), vars, 5), g.nums(vars)
		if got, e := symbol.Eval(p, x); string(value.Text(got)) != formOf(p).at(fracs(x)).RatString() || e != api.OK {
			t.Fatalf("Eval(%s at %s) = %s, %d", text(p), show(x), value.Text(got), e)
		}
	}
}

func TestP5_2Reach(t *testing.T) {
	for _, c := range []struct{ p, box, want string }{
		{"1 2, -1 1", "0 2", "-2 4"}, {"1 2, -1 1", "2 0", "-2 4"}, {"1 2", "-3 2", "0 9"}, {"1 3", "-3 2", "-27 8"}, {"", "1 2", "0 0"}, {"5", "", "5 5"},
		{"5 0", "-1 1", "5 5"}, {"1 1, -1 1", "1 2", "0 0"}, {"-1 1 1", "-1 2 3 -4", "-6 8"}, {"1 1 2", "-1 1 -2 1", "-4 4"},
	} {
		if s, e := symbol.Reach(terms(c.p), spans(t, c.box)); showSpan(s) != c.want || e != api.OK {
			t.Errorf("Reach(%s over %s) = %s, %d", c.p, c.box, showSpan(s), e)
		}
	}
	g := newNumbers()
	for range 300 {
		vars := g.below(4)
		p, box := g.terms(g.below(12), vars, 6), g.spans(vars)
		if got, e := symbol.Reach(p, box); showSpan(got) != formOf(p).reach(pairs(box)).String() || e != api.OK {
			t.Fatalf("Reach(%s over %s) = %s, %d", text(p), showBox(box), showSpan(got), e)
		}
	}
}

// P5.8: a ring, with the values of its elements, and Leibniz's rule.
func TestP5_8(t *testing.T) {
	g := newNumbers()
	for range 200 {
		vars := 1 + g.below(4)
		mul := func(p, q []api.SyTerm) []api.SyTerm {
			s, e := symbol.Mul(p, q, vars)
			if e != api.OK {
				t.Fatalf("Mul = %d", e)
			}
			return s
		}
		add := func(p, q []api.SyTerm) []api.SyTerm {
			s, e := symbol.Add(p, q, vars)
			if e != api.OK {
				t.Fatalf("Add = %d", e)
			}
			return s
		}
		p, q, r := g.terms(g.below(8), vars, 4), g.terms(g.below(8), vars, 4), g.terms(g.below(8), vars, 4)
		same := func(name string, a, b []api.SyTerm) {
			t.Helper()
			if text(a) != text(b) {
				t.Fatalf("%s of %s; %s; %s: %s and %s", name, text(p), text(q), text(r), text(a), text(b))
			}
		}
		same("commutative sum", add(p, q), add(q, p))
		same("commutative product", mul(p, q), mul(q, p))
		same("associative sum", add(add(p, q), r), add(p, add(q, r)))
		same("associative product", mul(mul(p, q), r), mul(p, mul(q, r)))
		same("distributive", mul(p, add(q, r)), add(mul(p, q), mul(p, r)))
		v := g.below(vars)
		slope := func(p []api.SyTerm) []api.SyTerm {
			s, _ := symbol.Diff(p, vars, v)
			return s
		}
		same("Leibniz's rule", slope(mul(p, q)), add(mul(slope(p), q), mul(p, slope(q))))
		box := g.spans(vars)
		x := g.point(box)
		at := func(p []api.SyTerm) value.Num {
			y, _ := symbol.Eval(p, x)
			return y
		}
		if value.Cmp(at(add(p, q)), value.Add(at(p), at(q))) != 0 || value.Cmp(at(mul(p, q)), value.Mul(at(p), at(q))) != 0 {
			t.Fatalf("values of %s and %s at %s", text(p), text(q), show(x))
		}
		if s, _ := symbol.Reach(p, box); !value.SpanHas(s, at(p)) {
			t.Fatalf("the reach of %s over %s does not have the value at %s", text(p), showBox(box), show(x))
		}
	}
}
