package poly_test

import (
	"math"
	"strings"
	"sync"
	"testing"

	"pentode/api"
	"pentode/poly"
	"pentode/value"
)

// errors are those of all functions that return one.
func errors(p, q []value.Num, a, b value.Span, bits int) map[string]api.Errno {
	l := map[string]api.Errno{}
	_, _, l["Div"] = poly.Div(p, q)
	_, l["Gcd"] = poly.Gcd(p, q)
	_, l["Parts"] = poly.Parts(p)
	_, l["Bound"] = poly.Bound(p)
	_, l["Count"] = poly.Count(p, a.Lo, a.Hi)
	_, l["Roots"] = poly.Roots(p, bits)
	_, l["SignAt"] = poly.SignAt(p, a, q)
	_, l["Positive"] = poly.Positive(p, a)
	_, _, l["Routh"] = poly.Routh(p)
	_, l["Rect"] = poly.Rect(p, a, b)
	return l
}

func TestErrLongComesFirst(t *testing.T) {
	// The second argument decides as well, where there is one; the spans would be wrong, too.
	long, point, turned := power(41), span(t, "1", "1"), span(t, "2", "1")
	for _, a := range []value.Span{point, turned} {
		for name, e := range errors(long, nil, a, point, 3) {
			if e != api.ErrLong {
				t.Errorf("%s of the degree 41: %d", name, e)
			}
		}
		for name, e := range errors(nil, long, a, point, 3) {
			if isOfTwo := name == "Div" || name == "Gcd" || name == "SignAt"; isOfTwo != (e == api.ErrLong) {
				t.Errorf("%s with a second one of the degree 41: %d", name, e)
			}
		}
	}
	// Zeros at the end make no polynomial longer.
	padded := append(power(40), make([]value.Num, 30)...)
	padded[0] = value.Int(-1)
	for name, e := range errors(padded, padded, span(t, "1/2", "3/2"), span(t, "-1/20", "1/30"), 3) {
		if e != api.OK {
			t.Errorf("%s of the degree 40: %d", name, e)
		}
	}
}

func TestErrorsOfZero(t *testing.T) {
	a := span(t, "1", "2")
	turned := value.Span{Lo: a.Hi, Hi: a.Lo}
	for _, zero := range []string{"", "0", "0 0 0"} {
		for _, b := range []value.Span{a, turned, value.Point(a.Lo)} {
			for name, e := range errors(list(t, zero), list(t, zero), b, b, 3) {
				want := api.ErrZero
				if name == "Gcd" || name == "Positive" {
					want = api.OK
				}
				if e != want {
					t.Errorf("%s of 0: %d", name, e)
				}
			}
		}
	}
	if e := errors(ints(0, 1), nil, turned, a, 3); e["Count"] != api.ErrRange || e["SignAt"] != api.ErrRange || e["Rect"] != api.OK {
		t.Errorf("errors of x on 2 to 1: %v", e)
	}
}

func TestOtherResultsAreZero(t *testing.T) {
	long, bad := power(41), span(t, "1", "1")
	for _, p := range [][]value.Num{long, nil} {
		q, r, _ := poly.Div(long, p)
		parts, _ := poly.Parts(p)
		bound, _ := poly.Bound(p)
		count, _ := poly.Count(p, value.Int(0), value.Int(3))
		roots, _ := poly.Roots(p, 5)
		sign, _ := poly.SignAt(p, bad, ints(1))
		right, axis, _ := poly.Routh(p)
		rect, _ := poly.Rect(p, bad, bad)
		if len(q)+len(r)+len(parts)+len(roots)+count+sign+right+axis+rect != 0 || value.Sign(bound) != 0 {
			t.Errorf("with an error: %s, %s, %s, %s, %s, %d, %d, %d, %d, %d", text(q), text(r), texts(parts), spanTexts(roots), value.Text(bound), count, sign, right, axis, rect)
		}
	}
	if g, _ := poly.Gcd(long, ints(1)); len(g) != 0 {
		t.Errorf("Gcd = %s", text(g))
	}
	if n, e := poly.Rect(ints(-1, 0, 1), span(t, "0", "1"), span(t, "-1", "1")); n != 0 || e != poly.ErrEdge {
		t.Errorf("Rect = %d, %d", n, e)
	}
}

// answers are all results for some arguments, as one text.
func answers(p, q []value.Num, a, b value.Span, bits int) string {
	var l []string
	add := func(s string, more ...int) {
		for _, n := range more {
			s += " " + string(value.Text(value.Int(int64(n))))
		}
		l = append(l, s)
	}
	for _, r := range [][]value.Num{poly.Trim(p), poly.Add(p, q), poly.Sub(p, q), poly.Mul(p, q), poly.Scale(p, a.Lo), poly.Deriv(p)} {
		add(text(r), poly.Deg(r))
	}
	add(string(value.Text(poly.Eval(p, a.Lo))) + spanText(poly.EvalSpan(p, a)))
	quotient, rest, e := poly.Div(p, q)
	add(texts([][]value.Num{quotient, rest}), int(e))
	common, e := poly.Gcd(p, q)
	add(text(common), int(e))
	parts, e := poly.Parts(p)
	add(texts(parts), int(e))
	bound, e := poly.Bound(p)
	add(string(value.Text(bound)), int(e))
	n, e := poly.Count(p, a.Lo, a.Hi)
	add("", n, int(e))
	roots, e := poly.Roots(p, bits)
	add(spanTexts(roots), int(e))
	n, e = poly.SignAt(p, a, q)
	add("", n, int(e))
	n, e = poly.Positive(p, a)
	add("", n, int(e))
	n, axis, e := poly.Routh(p)
	add("", n, axis, int(e))
	n, e = poly.Rect(p, a, b)
	add("", n, int(e))
	return strings.Join(l, "; ")
}

// anyPolys are polynomials of many kinds, long ones as well.
func anyPolys(t testing.TB) [][]value.Num {
	t.Helper()
	var l [][]value.Num
	for _, s := range []string{"", "0", "0 0", "-3", "0 1", "1/3 0 -1", "2 -3 1 0 0", "0 0 0 1", "1 0 0 0 0 0 1", "1G -1f 3p"} {
		l = append(l, list(t, s))
	}
	return append(l, chebyshev(12), power(40), power(41), power(300), []value.Num{twoTo(5000), value.Int(-1), twoTo(-4000)})
}

func TestP2_14AnyArguments(t *testing.T) {
	l := anyPolys(t)
	spans := []value.Span{{}, span(t, "-1", "1"), span(t, "2", "1/3"), {Lo: twoTo(400), Hi: twoTo(-400)}, span(t, "0", "0")}
	var before, first []string
	for _, p := range l {
		before = append(before, text(p))
	}
	for i, p := range l {
		first = append(first, answers(p, l[(3*i+1)%len(l)], spans[i%5], spans[(i+1)%5], 20))
	}
	// Goroutines share the arguments: what changes one of them is found by the race detector, too.
	var group sync.WaitGroup
	for _, bits := range []int{math.MinInt, -1, 20, 60, 1001, math.MaxInt} {
		group.Go(func() {
			for i, p := range l {
				got := answers(p, l[(3*i+1)%len(l)], spans[i%5], spans[(i+1)%5], bits)
				if bits == 20 && got != first[i] {
					t.Errorf("the answers for %s are others", before[i])
				}
				answers(p, l[(i+bits&7)%len(l)], spans[(i+3)%5], spans[(i+bits&3)%5], bits)
			}
		})
	}
	group.Wait()
	for i, p := range l {
		if text(p) != before[i] {
			t.Errorf("%s was changed to %s", before[i], text(p))
		}
	}
}

func TestP2_14ResultsAreNewMemory(t *testing.T) {
	// spoil changes all of a result, also what could be beyond its end.
	spoil := func(l []value.Num) {
		l = l[:cap(l)]
		for i := range l {
			l[i] = value.Int(99)
		}
	}
	padded := append(ints(2, -3, 1), make([]value.Num, 5)...)
	p, q := padded[:3:8], ints(0, 0, 0, 0, 7)
	before := text(padded) + text(q)
	x := value.Int(1)
	quotient, rest, _ := poly.Div(p, ints(5))
	_, whole, _ := poly.Div(p, q)
	same, _ := poly.Gcd(p, p)
	other, _ := poly.Gcd(nil, p)
	parts, _ := poly.Parts(p)
	results := append([][]value.Num{poly.Trim(p), poly.Add(p, nil), poly.Add(nil, p), poly.Sub(p, nil), poly.Mul(p, ints(1)), poly.Mul(ints(1), p), poly.Scale(p, x), poly.Deriv(p), quotient, rest, whole, same, other}, parts...)
	for i, r := range results {
		others := texts(results[i+1:])
		spoil(r)
		if text(padded)+text(q) != before {
			t.Fatalf("result %d is memory of an argument", i)
		}
		if texts(results[i+1:]) != others {
			t.Fatalf("result %d is memory of another one", i)
		}
	}
	l, _ := poly.Roots(p, 3)
	l = l[:cap(l)]
	clear(l)
	if again, _ := poly.Roots(p, 3); spanTexts(again) != "1:1 2:2" || text(padded)+text(q) != before {
		t.Errorf("Roots = %s", spanTexts(again))
	}
}
