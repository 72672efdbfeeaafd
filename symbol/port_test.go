package symbol_test

import (
	"math/big"
	"slices"
	"strings"
	"testing"

	"pentode/api"
	"pentode/points"
	"pentode/poly"
	"pentode/symbol"
	"pentode/value"
)

// The chapter's table of equations, by quantities: V1, I1, V2, I2, and -I1 and -I2, in this order.
var sides = map[int][2][2]int{
	api.PoZ: {{0, 2}, {1, 3}}, api.PoY: {{1, 3}, {0, 2}}, api.PoH: {{0, 3}, {1, 2}},
	api.PoG: {{1, 2}, {0, 3}}, api.PoA: {{0, 1}, {2, 5}}, api.PoB: {{2, 3}, {0, 4}},
}

// polynomialOf is a polynomial of a description.
func polynomialOf(list []api.Val) []value.Num {
	var p []value.Num
	for _, v := range list {
		x, _ := value.Parse(v)
		p = append(p, x)
	}
	return p
}

// matrixAt are the four numbers of a description at s, if its denominator is not 0 there.
func matrixAt(p api.SyPort, s value.Num) (m [4]*big.Rat, ok bool) {
	at := func(list []api.Val) *big.Rat { return frac(value.Text(poly.Eval(polynomialOf(list), s))) }
	d := at(p.D)
	if d.Sign() == 0 {
		return m, false
	}
	for i, n := range p.N {
		m[i] = divided(at(n), d)
	}
	return m, true
}

// holds reports whether quantities meet the equations of a description at s; -1 if its denominator is 0 there.
func holds(p api.SyPort, s value.Num, quantities [6]*big.Rat) int {
	m, ok := matrixAt(p, s)
	if !ok {
		return -1
	}
	side := sides[p.Kind]
	for i, left := range side[0] {
		sum := plus(times(m[2*i], quantities[side[1][0]]), times(m[2*i+1], quantities[side[1][1]]))
		if sum.Cmp(quantities[left]) != 0 {
			return 0
		}
	}
	return 1
}

// quantitiesOf are those of a description at s, for two numbers on the right side.
func quantitiesOf(p api.SyPort, s value.Num, x, y *big.Rat) (q [6]*big.Rat, ok bool) {
	m, ok := matrixAt(p, s)
	if !ok {
		return q, false
	}
	put := func(k int, x *big.Rat) {
		q[k] = x
		opposite := map[int]int{1: 4, 3: 5, 4: 1, 5: 3}
		if o, ok := opposite[k]; ok {
			q[o] = new(big.Rat).Neg(x)
		}
	}
	side := sides[p.Kind]
	put(side[1][0], x)
	put(side[1][1], y)
	for i, left := range side[0] {
		put(left, plus(times(m[2*i], x), times(m[2*i+1], y)))
	}
	return q, true
}

// isNormal reports whether a description is in normal form.
func isNormal(p api.SyPort) bool {
	d := polynomialOf(p.D)
	if len(d) == 0 || value.Text(d[len(d)-1]) != "1" {
		return false
	}
	common := d
	for _, list := range p.N {
		n := polynomialOf(list)
		if poly.Deg(n)+1 != len(n) {
			return false
		}
		common, _ = poly.Gcd(common, n)
	}
	return len(common) == 1
}

// port is a description of any kind, with degrees up to a limit; often with lists that are equal, or 0, or that have a common divisor.
func (g *numbers) port(degree int) api.SyPort {
	p := api.SyPort{Kind: 1 + g.below(6)}
	list := func() []value.Num { return poly.Trim(g.nums(g.below(degree + 2))) }
	var lists [5][]value.Num
	for i := range lists {
		lists[i] = list()
		if i > 0 && g.below(4) == 0 {
			lists[i] = poly.Scale(lists[g.below(i)], g.num())
		}
	}
	if len(lists[4]) == 0 {
		lists[4] = []value.Num{g.above()}
	}
	factor := []value.Num{value.Int(1)}
	if g.below(2) == 0 {
		factor = []value.Num{g.num(), g.above()}
	}
	for i := range lists {
		lists[i] = poly.Mul(lists[i], factor)
	}
	for i, l := range lists {
		var texts []api.Val
		for _, x := range l {
			texts = append(texts, value.Text(x))
		}
		if g.below(4) == 0 {
			texts = append(texts, "0", "0")
		}
		if i < 4 {
			p.N[i] = texts
		} else {
			p.D = texts
		}
	}
	return p
}

// known are some descriptions by their texts.
var known = []api.SyPort{
	port(api.PoZ, "5; 3; 3; 3; 1"), port(api.PoZ, "1; 1; 1; 1; 1"), port(api.PoZ, "; ; ; ; 1"), port(api.PoY, "; ; ; ; 1"),
	port(api.PoZ, "0 1; ; ; 1; 1"), port(api.PoA, "1; ; ; 1; 1"), port(api.PoA, "1; 2; ; 1; 1"), port(api.PoA, "1; ; 2; 1; 1"), port(api.PoA, "; ; ; ; 1"),
	port(api.PoB, "2; ; ; 1/2; 1"), port(api.PoH, "; 1; -1; ; 1"), port(api.PoG, "; 1; 1; ; 1"), port(api.PoH, "1; ; 100; ; 1"),
	port(api.PoY, "1 1; -1; -1; 1 1; 0 1"), port(api.PoZ, "1 1; 1; 1; 1 1; 0 1"),
}

// Of all descriptions in all kinds, with numbers at more places than the polynomials could be wrong at by chance.
func TestP5_7Convert(t *testing.T) {
	g := newNumbers()
	list := slices.Clone(known)
	for range 150 {
		list = append(list, g.port(3))
	}
	counts := map[api.Errno]int{}
	for _, p := range list {
		for kind := 1; kind <= 6; kind++ {
			q, e := symbol.Convert(p, kind)
			counts[e]++
			if e == api.ErrSingular {
				mustBeSingular(t, p, kind)
				continue
			}
			if e != api.OK || q.Kind != kind || !isNormal(q) {
				t.Fatalf("Convert(%s to %d) = %s, %d", showPort(p), kind, showPort(q), e)
			}
			tried := 0
			for s := int64(-12); s <= 12; s++ {
				at := value.Int(s)
				quantities, ok := quantitiesOf(p, at, frac(value.Text(g.num())), frac(value.Text(g.num())))
				if !ok {
					continue
				}
				switch holds(q, at, quantities) {
				case 0:
					t.Fatalf("Convert(%s to %d) = %s, which does not hold at %d", showPort(p), kind, showPort(q), s)
				case 1:
					tried++
				}
			}
			if tried < 10 {
				t.Fatalf("Convert(%s to %d) = %s, which is defined at %d places", showPort(p), kind, showPort(q), tried)
			}
		}
	}
	if counts[api.OK] < 300 || counts[api.ErrSingular] < 100 {
		t.Errorf("%v", counts)
	}
}

// mustBeSingular looks for quantities that are not all 0, but are 0 on the right side of the equations of a kind.
func mustBeSingular(t *testing.T, p api.SyPort, kind int) {
	t.Helper()
	right := sides[kind][1]
	for s := int64(-12); s <= 12; s++ {
		// What is on the right side of the kind is linear in what is on the right side of p: it is not one to one.
		first, ok := quantitiesOf(p, value.Int(s), ratio(1, 1), ratio(0, 1))
		if !ok {
			continue
		}
		second, _ := quantitiesOf(p, value.Int(s), ratio(0, 1), ratio(1, 1))
		if times(first[right[0]], second[right[1]]).Cmp(times(first[right[1]], second[right[0]])) != 0 {
			t.Fatalf("Convert(%s to %d) has an error, but there is such a description", showPort(p), kind)
		}
	}
}

func TestP5_7Normal(t *testing.T) {
	for _, c := range []struct {
		kind    int
		p, want string
	}{
		{1, "5; 3; 3; 3; 1", "1: 5; 3; 3; 3; 1"},
		{2, "0 2; 4 2 0; ; -4 0 1; 4 2", "2: 0 1; 2 1; ; -2 0 1/2; 2 1"},
		{3, "1 1; 1 1; 1 1; 1 1; 1 1", "3: 1; 1; 1; 1; 1"},
		{4, "; ; ; ; 3 5 0 7", "4: ; ; ; ; 1"},
		{5, "0 0; 0; ; 0 0 0; -2 0 0", "5: ; ; ; ; 1"},
		{6, "-1 0 1; 1 -2 1; -1 1; 2 -2; 3 -3", "6: -1/3 -1/3; 1/3 -1/3; -1/3; 2/3; 1"},
		{1, "0 0 4; 0 2; 0 6 8; 0 0 0 2; 0 0 -2", "1: 0 -2; -1; -3 -4; 0 0 -1; 0 1"},
		{1, "1 0 0 0 0 0 0 0 0 0 0 0 1; ; ; ; 2", "1: 1/2 0 0 0 0 0 0 0 0 0 0 0 1/2; ; ; ; 1"},
	} {
		if p, e := symbol.Normal(port(c.kind, c.p)); showPort(p) != c.want || e != api.OK {
			t.Errorf("Normal(%s) = %s, %d", c.p, showPort(p), e)
		}
	}
	g := newNumbers()
	for range 200 {
		p := g.port(4)
		q, e := symbol.Normal(p)
		if e != api.OK || !isNormal(q) || q.Kind != p.Kind {
			t.Fatalf("Normal(%s) = %s, %d", showPort(p), showPort(q), e)
		}
		// N / D is what it was: N of the one times D of the other one are the same.
		for i := range p.N {
			a := poly.Mul(polynomialOf(p.N[i]), polynomialOf(q.D))
			b := poly.Mul(polynomialOf(q.N[i]), polynomialOf(p.D))
			if show(a) != show(b) {
				t.Fatalf("Normal(%s) = %s", showPort(p), showPort(q))
			}
		}
		if again, e := symbol.Normal(q); showPort(again) != showPort(q) || e != api.OK {
			t.Fatalf("Normal of %s = %s, %d", showPort(q), showPort(again), e)
		}
		if same, e := symbol.Convert(p, p.Kind); showPort(same) != showPort(q) || e != api.OK {
			t.Fatalf("Convert of %s to its own kind = %s, %d", showPort(p), showPort(same), e)
		}
	}
}

// one is a list of the power n alone.
func one(n int) string { return strings.Repeat("0 ", n) + "1" }

func TestP5_7NotValid(t *testing.T) {
	good := port(api.PoA, "1; ; ; 1; 1")
	for _, c := range []struct {
		name string
		kind int
		p    string
		want api.Errno
	}{
		{"good", 1, "1; 2; 3; 4; 5", api.OK},
		{"no kind", 0, "x; x; x; x; ", api.ErrRange}, {"no kind", 7, "1; 1; 1; 1; 1", api.ErrRange}, {"no kind", -1, "1; 1; 1; 1; 1", api.ErrRange},
		{"11", 1, "1 2/4; " + string(digits(1001)) + "; 1; 1; ", api.ErrForm}, {"12", 1, "1; " + string(digits(1001)) + "; x; 1; ", api.ErrLong},
		{"21", 1, "1; 1; x; 1; 1", api.ErrForm}, {"22", 1, "1; 1; 1; 1 2 -0; 1", api.ErrForm}, {"D", 1, "1; 1; 1; 1; 1 +1", api.ErrForm},
		{"D, before a degree", 1, one(13) + "; 1; 1; 1; x", api.ErrForm},
		{"a degree", 1, one(13) + "; 1; 1; 1; ", api.ErrLong}, {"a degree", 2, "1; 1; 1; " + one(13) + "; 0", api.ErrLong}, {"a degree", 3, "1; 1; 1; 1; " + one(13), api.ErrLong},
		{"the greatest degrees", 4, one(12) + "; " + one(12) + "; 1; 1; " + one(12), api.OK},
		{"zeros at the end", 5, strings.Repeat("0 ", 50) + "; " + one(1) + strings.Repeat(" 0", 40) + "; 1; 1; 1 0 0 0 0 0 0 0 0 0 0 0 0 0 0", api.OK},
		{"D is 0", 6, "1; 1; 1; 1; ", api.ErrZero}, {"D is 0", 6, "1; 1; 1; 1; 0 0", api.ErrZero},
	} {
		p := port(c.kind, c.p)
		q, e := symbol.Normal(p)
		if e != c.want || e != api.OK && showPort(q) != "0: ; ; ; ; " {
			t.Errorf("%s: Normal = %s, %d", c.name, showPort(q), e)
		}
		if is, e := symbol.Reciprocal(p); e != c.want || e != api.OK && is {
			t.Errorf("%s: Reciprocal = %v, %d", c.name, is, e)
		}
		if c.want == api.OK {
			continue
		}
		// These errors come before all other ones, those of the first two-port before those of the second one.
		if q, e := symbol.Convert(p, 9); e != c.want || showPort(q) != "0: ; ; ; ; " {
			t.Errorf("%s: Convert = %s, %d", c.name, showPort(q), e)
		}
		zero := port(api.PoA, "1; 1; 1; 1; ")
		for _, pair := range [][2]api.SyPort{{p, good}, {good, p}, {p, zero}} {
			if q, e := symbol.Join(pair[0], pair[1], 9); e != c.want || showPort(q) != "0: ; ; ; ; " {
				t.Errorf("%s: Join = %s, %d", c.name, showPort(q), e)
			}
		}
		if _, e := symbol.Join(zero, p, 9); e != api.ErrZero {
			t.Errorf("%s: Join = %d", c.name, e)
		}
	}
}

func TestP5_7ConvertErrors(t *testing.T) {
	nines := strings.Repeat("9", 1000)
	for _, c := range []struct {
		p    api.SyPort
		kind int
		want api.Errno
	}{
		{known[1], 0, api.ErrRange}, {known[1], 7, api.ErrRange}, {known[1], -5, api.ErrRange}, {known[1], api.PoY, api.ErrSingular}, {known[1], api.PoA, api.OK},
		// the determinant s^7 s^6 - 1 is too high
		{port(api.PoZ, one(7)+"; 1; 1; "+one(6)+"; 1"), api.PoY, api.ErrLong},
		{port(api.PoZ, one(6)+"; 1; 1; "+one(6)+"; 1"), api.PoY, api.OK},
		{port(api.PoZ, one(7)+"; 1; 1; "+one(6)+"; 1"), api.PoH, api.ErrLong},
		{port(api.PoZ, one(7)+"; 1; 1; "+one(6)+"; 1"), api.PoZ, api.OK},
		{port(api.PoZ, one(12)+"; "+one(12)+"; "+one(12)+"; "+one(12)+"; 1"), api.PoH, api.OK},
		// numbers of the result
		{port(api.PoZ, nines+"; 1; 1; 2; 1"), api.PoZ, api.OK}, {port(api.PoZ, nines+"; ; ; 2; 1"), api.PoY, api.OK},
		{port(api.PoZ, nines+"; 1; 1; 2; 1"), api.PoY, api.ErrLong}, {port(api.PoZ, nines+"; 1; 1; 2; 1"), api.PoA, api.ErrLong},
		{port(api.PoZ, nines+"; 1; 1; ; 1"), api.PoA, api.OK},
		{port(api.PoZ, "1; 1; 1; 1; 1/"+nines), api.PoZ, api.OK}, {port(api.PoZ, "1; 2; 1; 1; 1/"+nines), api.PoZ, api.ErrLong},
	} {
		if q, e := symbol.Convert(c.p, c.kind); e != c.want || e != api.OK && showPort(q) != "0: ; ; ; ; " {
			t.Errorf("Convert(%.60s to %d) = %.60s, %d", showPort(c.p), c.kind, showPort(q), e)
		}
	}
	// The normal form alone may be too long.
	long := port(api.PoH, "1; ; ; ; 1/"+nines)
	long.N[0] = []api.Val{"2"}
	if q, e := symbol.Normal(long); e != api.ErrLong || showPort(q) != "0: ; ; ; ; " {
		t.Errorf("Normal = %.60s, %d", showPort(q), e)
	}
}

// product of two matrices of four numbers.
func product(a, b [4]*big.Rat) [4]*big.Rat {
	var c [4]*big.Rat
	for i := range c {
		row, column := i/2*2, i%2
		c[i] = plus(times(a[row], b[column]), times(a[row+1], b[2+column]))
	}
	return c
}

func TestP5_7Join(t *testing.T) {
	g := newNumbers()
	some := 0
	for i := range 300 {
		p, q := g.port(2), g.port(2)
		if i < len(known)*len(known) && i%2 == 0 {
			p, q = known[i%len(known)], known[i/len(known)]
		}
		for _, kind := range []int{api.PoA, api.PoZ, api.PoY} {
			a, first := symbol.Convert(p, kind)
			b, second := symbol.Convert(q, kind)
			both, e := symbol.Join(p, q, kind)
			if first != api.OK || second != api.OK {
				want := first
				if first == api.OK {
					want = second
				}
				if e != want || showPort(both) != "0: ; ; ; ; " {
					t.Fatalf("Join(%s, %s, %d) = %s, %d, not %d", showPort(p), showPort(q), kind, showPort(both), e, want)
				}
				continue
			}
			if e != api.OK || both.Kind != kind || !isNormal(both) {
				t.Fatalf("Join(%s, %s, %d) = %s, %d", showPort(p), showPort(q), kind, showPort(both), e)
			}
			some++
			for s := int64(-10); s <= 10; s++ {
				l, ok := matrixAt(a, value.Int(s))
				m, fine := matrixAt(b, value.Int(s))
				got, whole := matrixAt(both, value.Int(s))
				if !ok || !fine || !whole {
					continue
				}
				want := product(l, m)
				for k := range want {
					if kind != api.PoA {
						want[k] = plus(l[k], m[k])
					}
					if got[k].Cmp(want[k]) != 0 {
						t.Fatalf("Join(%s, %s, %d) = %s, which is wrong at %d", showPort(p), showPort(q), kind, showPort(both), s)
					}
				}
			}
		}
	}
	if some < 300 {
		t.Errorf("%d joined", some)
	}
}

func TestP5_7JoinErrors(t *testing.T) {
	line, high := port(api.PoA, "1; ; ; 1; 1"), port(api.PoA, one(7)+"; ; ; 1; 1")
	singular := known[1] // has no PoY
	tooHigh := port(api.PoZ, one(7)+"; 1; 1; "+one(6)+"; 1")
	nines := port(api.PoZ, strings.Repeat("9", 1000)+"; ; ; 1; 1")
	for _, c := range []struct {
		p, q api.SyPort
		kind int
		want api.Errno
	}{
		{line, line, api.PoH, api.ErrRange}, {line, line, api.PoG, api.ErrRange}, {line, line, api.PoB, api.ErrRange}, {line, line, 0, api.ErrRange}, {line, line, 7, api.ErrRange},
		{line, line, api.PoA, api.OK}, {line, line, api.PoZ, api.ErrSingular},
		{singular, line, api.PoY, api.ErrSingular}, {singular, tooHigh, api.PoY, api.ErrSingular}, {tooHigh, singular, api.PoY, api.ErrLong},
		{high, line, api.PoA, api.OK}, {high, high, api.PoA, api.ErrLong},
		{nines, singular, api.PoZ, api.ErrLong}, {nines, port(api.PoZ, "-9; ; ; 1; 1"), api.PoZ, api.OK}, {nines, nines, api.PoY, api.OK},
	} {
		if q, e := symbol.Join(c.p, c.q, c.kind); e != c.want || e != api.OK && showPort(q) != "0: ; ; ; ; " {
			t.Errorf("Join(%.60s, %.60s, %d) = %.60s, %d", showPort(c.p), showPort(c.q), c.kind, showPort(q), e)
		}
	}
}

func TestP5_7Reciprocal(t *testing.T) {
	for _, c := range []struct {
		kind int
		p    string
		want bool
	}{
		{1, "1; 2; 2; 4; 1", true}, {1, "1; 2; -2; 4; 1", false}, {1, "1; 0 2; 0 2 0; 4; 1", true}, {1, "; ; ; ; 1", true}, {1, "1; 2; 2 1; 4; 1", false},
		{2, "1; 2; 2; 4; 5", true}, {2, "1; 2; -2; 4; 5", false},
		{3, "1; 2; 2; 4; 1", false}, {3, "1; 2; -2; 4; 1", true}, {4, "1; 2; -2 0; 4; 1", true}, {4, "1; 2; 2; 4; 1", false}, {4, "1; ; ; 4; 1", true},
		{5, "1; ; ; 1; 1", true}, {5, "1; ; ; -1; 1", false}, {5, "2; ; ; 2; 2", true}, {5, "3; 5; 1; 2; 1", true}, {5, "3; 5; 1; 2; 2", false}, {5, "0 1; 1; -1; ; 1", true},
		{6, "3; 5; 1; 2; 1", true}, {6, "3; 5; 1; 3; 1", false}, {6, "0 3; 0 5; 0 1; 0 2; 0 1", true},
	} {
		if is, e := symbol.Reciprocal(port(c.kind, c.p)); is != c.want || e != api.OK {
			t.Errorf("Reciprocal(%d: %s) = %v, %d", c.kind, c.p, is, e)
		}
	}
}

// P5.12: there and back, and through another description; chains are associative; what is reciprocal stays so.
func TestP5_12(t *testing.T) {
	g := newNumbers()
	list := slices.Clone(known)
	for range 100 {
		list = append(list, g.port(2))
	}
	for range 40 {
		n := g.passive(1+g.below(4), g.below(6))
		p, e := symbol.Port(n, [4]int{g.below(n.Nodes + 1), g.below(n.Nodes + 1), g.below(n.Nodes + 1), g.below(n.Nodes + 1)})
		if is, _ := symbol.Reciprocal(p); e != api.OK && e != api.ErrSingular || e == api.OK && !is {
			t.Fatalf("%v: Port = %s, %d, reciprocal: %v", n, showPort(p), e, is)
		}
		if e == api.OK {
			list = append(list, p)
		}
	}
	reciprocal := 0
	for _, p := range list {
		normal, _ := symbol.Normal(p)
		is, _ := symbol.Reciprocal(p)
		for kind := 1; kind <= 6; kind++ {
			q, e := symbol.Convert(p, kind)
			if e != api.OK {
				continue
			}
			if back, e := symbol.Convert(q, p.Kind); showPort(back) != showPort(normal) || e != api.OK {
				t.Fatalf("%s to %d and back is %s, %d", showPort(p), kind, showPort(back), e)
			}
			if still, e := symbol.Reciprocal(q); still != is || e != api.OK {
				t.Fatalf("%s is reciprocal: %v, %s: %v, %d", showPort(p), is, showPort(q), still, e)
			}
			for other := 1; other <= 6; other++ {
				far, e := symbol.Convert(q, other)
				near, f := symbol.Convert(p, other)
				if e != f || showPort(far) != showPort(near) {
					t.Fatalf("%s to %d is %s, %d, through %d %s, %d", showPort(p), other, showPort(near), f, kind, showPort(far), e)
				}
			}
		}
		if is {
			reciprocal++
		}
	}
	if reciprocal < 40 || reciprocal > len(list)-40 {
		t.Errorf("%d of %d are reciprocal", reciprocal, len(list))
	}
	some := 0
	for range 200 {
		p, q, r := list[g.below(len(list))], list[g.below(len(list))], list[g.below(len(list))]
		pq, e := symbol.Join(p, q, api.PoA)
		if e != api.OK {
			continue
		}
		qr, e := symbol.Join(q, r, api.PoA)
		if e != api.OK {
			continue
		}
		left, e := symbol.Join(pq, r, api.PoA)
		right, f := symbol.Join(p, qr, api.PoA)
		if e != f || showPort(left) != showPort(right) {
			t.Fatalf("%s, %s, %s: %s, %d and %s, %d", showPort(p), showPort(q), showPort(r), showPort(left), e, showPort(right), f)
		}
		some++
	}
	if some < 50 {
		t.Errorf("%d chains", some)
	}
}

// measured are the voltages at the ports of a net for a current into one of them, at s, which is not 0.
func measured(n api.Net, nodes [4]int, side int, s value.Num) (volts [2]value.Num, e api.Errno) {
	net := direct(api.SyTask{Net: n, In: -1}, []value.Num{s})
	net.Elems = append(net.Elems, api.Elem{Kind: api.ElI, A: nodes[2*side+1], B: nodes[2*side], Val: "1"})
	at, e := points.Exact(net)
	if e != api.OK {
		return volts, e
	}
	voltage := func(node int) value.Num {
		if node == 0 {
			return value.Num{}
		}
		return at[0][node-1]
	}
	for i := range volts {
		volts[i] = value.Sub(voltage(nodes[2*i]), voltage(nodes[2*i+1]))
	}
	return volts, api.OK
}

// The two-port of a net has the voltages that currents into the net cause.
func TestP5_6Port(t *testing.T) {
	g := newNumbers()
	counts := map[api.Errno]int{}
	for range 300 {
		n := g.task(6, 0).Net
		nodes := [4]int{g.below(n.Nodes + 1), g.below(n.Nodes + 1), g.below(n.Nodes + 1), g.below(n.Nodes + 1)}
		p, e := symbol.Port(n, nodes)
		counts[e]++
		if c, _ := points.Char(n); (poly.Deg(c) < 0) != (e == api.ErrSingular) || e != api.OK && (e != api.ErrSingular || showPort(p) != "0: ; ; ; ; ") {
			t.Fatalf("%v: Port = %s, %d, Char = %s", n, showPort(p), e, show(c))
		}
		if e != api.OK {
			continue
		}
		if p.Kind != api.PoZ || !isNormal(p) {
			t.Fatalf("%v: Port = %s", n, showPort(p))
		}
		for k := range 20 {
			s := value.Add(value.Int(int64(k-10)), num(t, "1/2"))
			z, ok := matrixAt(p, s)
			for side := range 2 {
				volts, e := measured(n, nodes, side, s)
				if e != api.OK || !ok {
					continue
				}
				if string(value.Text(volts[0])) != z[side].RatString() || string(value.Text(volts[1])) != z[2+side].RatString() {
					t.Fatalf("%v at %v: Port = %s, but the current into %d gives %s", n, nodes, showPort(p), side, show(volts[:]))
				}
			}
		}
	}
	if counts[api.OK] < 100 || counts[api.ErrSingular] < 20 {
		t.Errorf("%v", counts)
	}
}

func TestP5_6Ports(t *testing.T) {
	for _, c := range []struct {
		lines string
		nodes [4]int
		want  string
	}{
		{"r r1 1 2 2; r r2 2 0 3", [4]int{1, 0, 2, 0}, "1: 5; 3; 3; 3; 1"},
		{"r r1 1 2 2; r r2 2 0 3", [4]int{2, 0, 1, 0}, "1: 3; 3; 3; 5; 1"},
		{"r r1 1 2 2; r r2 2 0 3", [4]int{1, 2, 2, 0}, "1: 2; ; ; 3; 1"},
		{"r r1 1 2 2; r r2 2 0 3", [4]int{2, 1, 2, 0}, "1: 2; ; ; 3; 1"},
		{"r r1 1 2 2; r r2 2 0 3", [4]int{0, 1, 2, 0}, "1: 5; -3; -3; 3; 1"},
		{"r r1 1 2 2; r r2 2 0 3", [4]int{1, 1, 2, 0}, "1: ; ; ; 3; 1"},
		{"r r1 1 2 2; r r2 2 0 3", [4]int{0, 0, 0, 0}, "1: ; ; ; ; 1"},
		// sources are 0: a source of voltage joins its nodes
		{"v v1 1 0 7; r r1 1 2 2; r r2 2 0 3; i i1 2 0 5", [4]int{1, 0, 2, 0}, "1: ; ; ; 6/5; 1"},
		{"c c1 1 0 2", [4]int{1, 0, 1, 0}, "1: 1/2; 1/2; 1/2; 1/2; 0 1"},
		{"l l1 1 0 2", [4]int{1, 0, 1, 0}, "1: 0 2; 0 2; 0 2; 0 2; 1"},
		// 1 / (s + 1 + 1 / s)
		{"c c1 1 0 1; r r1 1 0 1; l l1 1 0 1", [4]int{1, 0, 0, 0}, "1: 0 1; ; ; ; 1 1 1"},
		// a gyrator: not reciprocal
		{"g g1 1 0 2 0 1; g g2 2 0 1 0 -1", [4]int{1, 0, 2, 0}, "1: ; -1; 1; ; 1"},
		// a part of the net that is not seen has the common divisor 1 + s of all
		{"r r1 1 0 4; r r2 2 0 1; c c1 2 0 1", [4]int{1, 0, 1, 0}, "1: 4; 4; 4; 4; 1"},
		{"s s1 1 0 on 4; s s2 1 0 off 1", [4]int{1, 0, 1, 0}, "1: 4; 4; 4; 4; 1"},
	} {
		if p, e := symbol.Port(read(t, c.lines), c.nodes); showPort(p) != c.want || e != api.OK {
			t.Errorf("%s at %v: Port = %s, %d", c.lines, c.nodes, showPort(p), e)
		}
	}
	if p, e := symbol.Port(api.Net{}, [4]int{}); showPort(p) != "1: ; ; ; ; 1" || e != api.OK {
		t.Errorf("Port of no unknowns = %s, %d", showPort(p), e)
	}
}

func TestP5_6Errors(t *testing.T) {
	n := read(t, "r r1 1 2 2; r r2 2 0 3")
	long := api.Net{Nodes: 1, Elems: []api.Elem{{Kind: api.ElR, A: 1, Val: digits(1000)}, {Kind: api.ElR, A: 1, Val: api.Val(strings.Repeat("9", 999))}}}
	curved := api.Net{Nodes: 13, Elems: []api.Elem{{Kind: api.ElD, A: 1}}, Models: []api.Model{{Kind: api.MdCurve, Pieces: [][]api.Val{{"1"}}}}}
	for _, c := range []struct {
		name  string
		n     api.Net
		nodes [4]int
		want  api.Errno
	}{
		{"good", n, [4]int{1, 0, 2, 0}, api.OK},
		{"the first node", n, [4]int{3, 0, 2, 0}, api.ErrRange}, {"the second node", n, [4]int{1, -1, 2, 0}, api.ErrRange},
		{"the third node", n, [4]int{1, 0, 1 << 62, 0}, api.ErrRange}, {"the fourth node", n, [4]int{1, 0, 2, -1 << 63}, api.ErrRange},
		{"not valid", api.Net{Nodes: -1}, [4]int{-1}, api.ErrRange}, {"not valid", api.Net{Elems: make([]api.Elem, 1)}, [4]int{-1}, api.ErrArg},
		{"curved, and too many unknowns", curved, [4]int{-1}, api.ErrForm},
		{"13 unknowns", api.Net{Nodes: 13}, [4]int{-1}, api.ErrLong}, {"12 unknowns", api.Net{Nodes: 12}, [4]int{12, 0, 0, 0}, api.ErrSingular},
		{"singular", api.Net{Nodes: 1}, [4]int{}, api.ErrSingular}, {"singular, and no node", api.Net{Nodes: 1}, [4]int{2}, api.ErrRange},
		{"too long", long, [4]int{1, 0, 1, 0}, api.ErrLong}, {"what would be too long is not seen", long, [4]int{}, api.OK},
	} {
		if p, e := symbol.Port(c.n, c.nodes); e != c.want || e != api.OK && showPort(p) != "0: ; ; ; ; " {
			t.Errorf("%s: Port = %.60s, %d", c.name, showPort(p), e)
		}
	}
}

// Two-ports of nets that are joined are those of the nets joined.
func TestP5_7Nets(t *testing.T) {
	g := newNumbers()
	some := 0
	for range 100 {
		a, b := g.passive(2, g.below(4)), g.passive(2, g.below(4))
		nodes := [4]int{1, 0, 2, 0}
		p, e := symbol.Port(a, nodes)
		q, f := symbol.Port(b, nodes)
		if e != api.OK || f != api.OK {
			continue
		}
		for _, c := range []struct{ kind, in, out, all int }{{api.PoA, 2, 3, 3}, {api.PoY, 1, 2, 2}} {
			both := api.Net{Nodes: c.all, Elems: slices.Clone(a.Elems)}
			move := [3]int{0, c.in, c.out}
			for _, e := range b.Elems {
				e.A, e.B = move[e.A], move[e.B]
				both.Elems = append(both.Elems, e)
			}
			want, e := symbol.Port(both, [4]int{1, 0, c.all, 0})
			if e != api.OK {
				continue
			}
			joined, e := symbol.Join(p, q, c.kind)
			if e == api.ErrSingular {
				continue
			}
			got, f := symbol.Convert(joined, api.PoZ)
			if e != api.OK || f != api.OK || showPort(got) != showPort(want) {
				t.Fatalf("%v, %v: Join by %d is %s, %d, %d, not %s", a, b, c.kind, showPort(got), e, f, showPort(want))
			}
			some++
		}
	}
	if some < 50 {
		t.Errorf("%d joined", some)
	}
}
