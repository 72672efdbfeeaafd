package filter_test

import (
	"fmt"
	"slices"
	"testing"

	"pentode/api"
	"pentode/filter"
	"pentode/net"
	"pentode/points"
	"pentode/poly"
	"pentode/symbol"
	"pentode/value"
)

func TestP8_3Fraction(t *testing.T) {
	g := newNumbers()
	exist, lack := 0, 0
	for i := range 2000 {
		p := g.nonzero(1 + g.below(9))
		switch i % 4 {
		case 0:
			p = g.hurwitz(g.below(12))
		case 1: // a root 0, or two ones on the axis or with opposite signs
			p = poly.Mul(p, []value.Num{value.Int(int64(g.below(3) - 1)), value.Int(0), value.Int(1)})
		}
		want, ok := fraction(fracs(p))
		q, e := filter.Fraction(p)
		if !ok {
			lack++
			isList(t, "Fraction of "+show(p), q, e, "", api.ErrForm)
			continue
		}
		exist++
		isList(t, "Fraction of "+show(p), q, e, show(numsOf(want)), api.OK)
	}
	if exist < 500 || lack < 300 {
		t.Errorf("%d exist, %d do not", exist, lack)
	}
}

// backwards is a polynomial with a continued fraction: from its last number on, each one adds q s times what there is.
func backwards(q []value.Num) []value.Num {
	a, b := ints(1), []value.Num(nil)
	for _, x := range slices.Backward(q) {
		a, b = poly.Add(poly.Mul([]value.Num{value.Int(0), x}, a), b), a
	}
	return poly.Add(a, b)
}

func TestP8_3NumbersThatAreKnown(t *testing.T) {
	g := newNumbers()
	for n := range api.MaxDeg + 1 {
		var q []value.Num
		areAbove := true
		for range n {
			x := g.above()
			if g.below(40) == 0 {
				x = value.Neg(x)
				areAbove = false
			}
			q = append(q, x)
		}
		p := poly.Scale(backwards(q), g.above())
		got, e := filter.Fraction(p)
		isList(t, "Fraction", got, e, show(q), api.OK)
		got, e = filter.Ladder(p)
		if areAbove {
			isList(t, "Ladder", got, e, show(q), api.OK)
		} else {
			isList(t, "Ladder", got, e, "", filter.ErrHurwitz)
		}
	}
}

func TestP8_3Errors(t *testing.T) {
	zeros := make([]value.Num, 60)
	for _, c := range []struct {
		p                []value.Num
		fraction, ladder api.Errno
	}{
		{power(41), api.ErrLong, api.ErrLong}, {zeros, api.ErrZero, api.ErrZero}, {nil, api.ErrZero, api.ErrZero}, {power(40), api.ErrForm, filter.ErrHurwitz},
		{power(1), api.ErrForm, filter.ErrHurwitz}, {nums(t, "1 0 1 0"), api.ErrForm, filter.ErrHurwitz}, {nums(t, "6 11 6 1"), api.OK, api.OK},
		{nums(t, "6 -11 6 -1"), api.OK, filter.ErrHurwitz}, {nums(t, "1 1 1 1 1"), api.ErrForm, filter.ErrHurwitz}, {append(nums(t, "-2"), zeros...), api.OK, api.OK},
	} {
		q, e := filter.Fraction(c.p)
		hasError(t, "Fraction of "+show(c.p), q, e, c.fraction)
		q, e = filter.Ladder(c.p)
		hasError(t, "Ladder of "+show(c.p), q, e, c.ladder)
	}
}

// T5, for polynomials whose roots are anywhere.
func TestP8_9Hurwitz(t *testing.T) {
	g := newNumbers()
	stable, unstable := 0, 0
	for i := range 1500 {
		p := g.nonzero(1 + g.below(5))
		switch i % 5 {
		case 0:
			p = g.hurwitz(g.below(9))
		case 1: // a pair on the axis
			p = poly.Mul(g.hurwitz(g.below(6)), []value.Num{g.above(), value.Int(0), value.Int(1)})
		case 2: // a pair to the right
			p = poly.Mul(g.hurwitz(g.below(6)), []value.Num{g.above(), value.Neg(g.above()), value.Int(1)})
		}
		q, e := filter.Ladder(p)
		f, fe := filter.Fraction(p)
		if isHurwitz(p) {
			stable++
			isList(t, "Ladder of "+show(p), q, e, show(f), api.OK)
			if fe != api.OK || len(q) != poly.Deg(p) {
				t.Errorf("%s is Hurwitz, but Fraction = %s, %d", show(p), show(f), fe)
			}
			for _, x := range q {
				if value.Sign(x) <= 0 {
					t.Errorf("%s is Hurwitz, but has %s", show(p), show(q))
				}
			}
			continue
		}
		unstable++
		isList(t, "Ladder of "+show(p), q, e, "", filter.ErrHurwitz)
	}
	if stable < 300 || unstable < 600 {
		t.Errorf("%d are Hurwitz, %d are not", stable, unstable)
	}
}

// isNet holds a net and an error against what they have to be.
func isNet(t *testing.T, what string, n api.Net, e api.Errno, nodes int, want []api.Elem) {
	t.Helper()
	if e != api.OK || n.Nodes != nodes || !slices.Equal(n.Elems, want) || n.Models != nil {
		t.Errorf("%s = %v, %d, not %d, %v", what, n, e, nodes, want)
	}
}

func hasNoNet(t *testing.T, what string, n api.Net, e, want api.Errno) {
	t.Helper()
	if e != want || n.Nodes != 0 || n.Elems != nil || n.Models != nil {
		t.Errorf("%s = %.200s, %d, not %d", what, fmt.Sprint(n), e, want)
	}
}

func TestP8_4Net(t *testing.T) {
	g := newNumbers()
	for n := 1; n <= api.MaxLadder; n++ {
		r, w := g.above(), g.above()
		want := []api.Elem{{Kind: api.ElV, A: 1, Val: "1"}}
		var q []value.Num
		for range n {
			q = append(q, g.above())
		}
		highest := 1
		for i := n; i >= 1; i-- {
			x, rate := frac(value.Text(q[i-1])), over(frac(value.Text(r)), frac(value.Text(w)))
			if (n-i)%2 == 0 {
				want = append(want, api.Elem{Kind: api.ElL, A: highest, B: highest + 1, Val: textOf(product(x, rate))})
				highest++
			} else {
				below := product(frac(value.Text(r)), frac(value.Text(w)))
				want = append(want, api.Elem{Kind: api.ElC, A: highest, Val: textOf(over(x, below))})
			}
		}
		want = append(want, api.Elem{Kind: api.ElR, A: highest, Val: value.Text(r)})
		got, e := filter.Net(q, r, w)
		isNet(t, "Net of "+show(q), got, e, highest, want)
	}
}

func TestP8_4Chain(t *testing.T) {
	one := []api.Elem{
		{Kind: api.ElV, A: 1, Val: "1"},
		{Kind: api.ElR, A: 1, B: 2, Val: "1"}, {Kind: api.ElR, A: 2, B: 3, Val: "1"}, {Kind: api.ElC, A: 2, B: 4, Val: "4"}, {Kind: api.ElC, A: 3, Val: "1/12"},
		{Kind: api.ElE, A: 4, C: 3, Val: "1"},
	}
	two := append(one[:6:6],
		api.Elem{Kind: api.ElR, A: 4, B: 5, Val: "1"}, api.Elem{Kind: api.ElR, A: 5, B: 6, Val: "1"}, api.Elem{Kind: api.ElC, A: 5, B: 7, Val: "2/7"},
		api.Elem{Kind: api.ElC, A: 6, Val: "35/4"}, api.Elem{Kind: api.ElE, A: 7, C: 6, Val: "1"},
	)
	sections := [][2]value.Num{{ratio(1, 2), value.Int(3)}, {value.Int(7), ratio(2, 5)}}
	n, e := filter.Chain(sections[:1])
	isNet(t, "Chain of one section", n, e, 4, one)
	n, e = filter.Chain(sections)
	isNet(t, "Chain of two sections", n, e, 7, two)
}

func TestP8_4ErrorsOfNet(t *testing.T) {
	long, short := num(t, digits(1000)), num(t, "1/"+digits(1000))
	longer := value.Mul(long, value.Int(10))
	one, zero, below := value.Int(1), value.Int(0), value.Int(-1)
	for _, c := range []struct {
		q    []value.Num
		r, w value.Num
		e    api.Errno
	}{
		{nil, one, one, api.ErrRange}, {[]value.Num{}, longer, one, api.ErrRange}, {make([]value.Num, 11), one, one, api.ErrRange},
		{slices.Repeat(ints(1), 11), one, one, api.ErrRange}, {slices.Repeat(ints(1), 10), one, one, api.OK}, {ints(1, 2, 0), one, one, api.ErrRange},
		{ints(-1), one, one, api.ErrRange}, {ints(1), zero, one, api.ErrRange}, {ints(1), below, one, api.ErrRange}, {ints(1), one, zero, api.ErrRange},
		{[]value.Num{longer}, one, below, api.ErrRange}, {ints(1), longer, longer, api.ErrLong}, {ints(1), long, one, api.OK}, {ints(1, 1), long, long, api.ErrLong},
		{ints(1, 10), long, one, api.ErrLong}, {ints(10), short, one, api.OK}, {ints(1), one, value.Mul(short, ratio(1, 10)), api.ErrLong},
		{[]value.Num{short, long}, one, one, api.OK}, {[]value.Num{one, longer}, value.Int(10), one, api.ErrLong},
	} {
		n, e := filter.Net(c.q, c.r, c.w)
		if c.e != api.OK {
			hasNoNet(t, "Net", n, e, c.e)
		} else if e != api.OK {
			t.Errorf("Net of %.100s: %d", show(c.q), e)
		}
	}
}

func TestP8_4ErrorsOfChain(t *testing.T) {
	long := num(t, digits(1000))
	longer := value.Mul(long, value.Int(10))
	one, zero, below := value.Int(1), value.Int(0), value.Int(-1)
	for _, c := range []struct {
		l [][2]value.Num
		e api.Errno
	}{
		{nil, api.ErrRange}, {[][2]value.Num{}, api.ErrRange}, {slices.Repeat([][2]value.Num{{one, one}}, 3), api.ErrRange}, {[][2]value.Num{{one, zero}}, api.ErrRange},
		{[][2]value.Num{{below, one}}, api.ErrRange}, {[][2]value.Num{{longer, longer}, {one, below}}, api.ErrRange}, {[][2]value.Num{{long, one}}, api.OK},
		{[][2]value.Num{{one, one}, {value.Mul(longer, value.Int(2)), one}}, api.ErrLong}, {[][2]value.Num{{one, longer}}, api.ErrLong}, {make([][2]value.Num, 2), api.ErrRange},
	} {
		n, e := filter.Chain(c.l)
		if c.e != api.OK {
			hasNoNet(t, "Chain", n, e, c.e)
		} else if e != api.OK {
			t.Errorf("Chain: %d", e)
		}
	}
}

// transfers holds the transfer function from the source of a net to the voltage of a node against another one.
func transfers(t *testing.T, n api.Net, node int, top, bottom []value.Num) {
	t.Helper()
	if _, _, e := net.Check(n); e != api.OK {
		t.Fatalf("%v is not valid: %d", n, e)
	}
	p, q, e := symbol.Ratio(api.SyTask{Net: n, In: 0, Out: node - 1})
	if e != api.OK || show(poly.Mul(p, bottom)) != show(poly.Mul(q, top)) {
		t.Errorf("%v: the transfer function is %s over %s, %d, not %s over %s", n, show(p), show(q), e, show(top), show(bottom))
	}
}

func TestP8_9Ladders(t *testing.T) {
	g := newNumbers()
	for i := range 60 {
		n := 1 + i%api.MaxLadder
		p, r, w := g.hurwitz(n), g.above(), g.above()
		q, e := filter.Ladder(p)
		if e != api.OK {
			t.Fatalf("Ladder of %s: %d", show(p), e)
		}
		ladder, e := filter.Net(q, r, w)
		if e != api.OK {
			t.Fatalf("Net of %s: %d", show(q), e)
		}
		bottom, _ := filter.Denorm(p, w)
		transfers(t, ladder, ladder.Nodes, p[:1], bottom)
		char, e := points.Char(ladder)
		if _, rest, _ := poly.Div(char, bottom); e != api.OK || len(char) != n+1 || len(rest) > 0 {
			t.Errorf("the characteristic polynomial of the ladder of %s is %s, %d", show(bottom), show(char), e)
		}
	}
}

func TestP8_10Sections(t *testing.T) {
	g := newNumbers()
	for i := range 60 {
		var sections [][2]value.Num
		top, bottom := ints(1), ints(1)
		for range 1 + i%api.MaxSections {
			b1, b0 := g.above(), g.above()
			sections = append(sections, [2]value.Num{b1, b0})
			top, bottom = poly.Scale(top, b0), poly.Mul(bottom, []value.Num{b0, b1, value.Int(1)})
		}
		n, e := filter.Chain(sections)
		if e != api.OK {
			t.Fatalf("Chain: %d", e)
		}
		transfers(t, n, n.Nodes, top, bottom)
	}
}
