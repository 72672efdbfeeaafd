package filter_test

import (
	"math/big"
	"slices"
	"strings"
	"testing"

	"pentode/api"
	"pentode/filter"
	"pentode/poly"
	"pentode/value"
)

func TestP8_6Square(t *testing.T) {
	g := newNumbers()
	for i := range 150 {
		p := g.poly(1 + i%20)
		got, e := filter.Square(p)
		sameValues(t, "Square of "+show(p), got, e, 40, func(w value.Num) value.Num {
			return numsOf([]*big.Rat{squareAt(fracs(p), frac(value.Text(w)))})[0]
		})
	}
	p, e := filter.Square(nil)
	isList(t, "Square of 0", p, e, "", api.OK)
	p, e = filter.Square(append(power(20), make([]value.Num, 90)...))
	isList(t, "Square of the greatest degree", p, e, show(power(40)), api.OK)
	for _, n := range []int{21, 40, 41, 90} {
		p, e := filter.Square(power(n))
		isList(t, "Square of too great a degree", p, e, "", api.ErrLong)
	}
}

// rooted is a polynomial with roots that are known, ascending, and with their multiplicities.
func (g *numbers) rooted() (p []value.Num, roots []value.Num) {
	p = []value.Num{g.above()}
	if g.below(3) == 0 {
		p[0] = value.Neg(p[0])
	}
	for range g.below(4) {
		root := g.num()
		roots = append(roots, root)
		p = poly.Mul(p, times([]value.Num{value.Neg(root), value.Int(1)}, 1+g.below(4)))
	}
	for range g.below(3) { // roots that are not real, often next to the real axis
		mid := g.num()
		small := quotient(g.above(), raise(value.Int(10), g.below(12)))
		p = poly.Mul(p, []value.Num{value.Add(value.Mul(mid, mid), small), value.Mul(mid, value.Int(-2)), value.Int(1)})
	}
	slices.SortFunc(roots, value.Cmp)
	return p, roots
}

func TestP8_6Nonneg(t *testing.T) {
	g := newNumbers()
	var count [2]int
	for range 1500 {
		p, roots := g.rooted()
		a := value.Span{Lo: g.num(), Hi: g.num()}
		if len(roots) > 0 && g.below(2) == 0 {
			a.Lo = roots[g.below(len(roots))]
		}
		// Between neighbouring roots and ends one number is as good as all others.
		lo, hi := value.Min(a.Lo, a.Hi), value.Max(a.Lo, a.Hi)
		stops := []value.Num{lo}
		for _, root := range roots {
			if value.Cmp(lo, root) < 0 && value.Cmp(root, hi) < 0 {
				stops = append(stops, root)
			}
		}
		stops = append(stops, hi)
		want := 1
		for i, x := range stops {
			y := stops[min(i+1, len(stops)-1)]
			if value.Sign(poly.Eval(p, x)) < 0 || value.Sign(poly.Eval(p, value.SpanMid(value.Span{Lo: x, Hi: y}))) < 0 {
				want = 0
			}
		}
		count[want]++
		if is, e := filter.Nonneg(p, a); is != (want == 1) || e != api.OK {
			t.Fatalf("Nonneg of %s on %v = %t, %d", show(p), value.SpanText(a), is, e)
		}
	}
	if min(count[0], count[1]) < 300 {
		t.Errorf("%v are not, and are", count)
	}
}

func TestP8_6NonnegOnEdges(t *testing.T) {
	tiny := value.Text(quotient(value.Int(1), raise(value.Int(10), 64)))
	for _, c := range []struct {
		p, a string
		want bool
	}{
		{"", "-1 1", true}, {"0 0", "0 0", true}, {"-1", "0 1", false}, {"1", "0 1", true}, {"0 1", "0 0", true}, {"0 1", "0 1", true}, {"0 1", "-1 0", false}, {"0 -1", "0 -1", true},
		{"0 -1 1", "0 1", false}, {"0 1 -1", "1 0", true}, {"-1 3 -3 1", "1 5", true}, {"-1 3 -3 1", "0 5", false}, {"1/9 -2/3 1", "0 1", true}, {"-1/9 2/3 -1", "0 1", false},
		{"-1/9 2/3 -1", "1/3 1/3", true}, {"4 0 -4 0 1", "-5 5", true}, {"4 0 -4 0 1 0 0", "1 2", true}, {"-8 0 12 0 -6 0 1", "1 2", false}, {"-8 0 12 0 -6 0 1", "3/2 2", true},
		// Around the roots of 2 something very small is added, or taken away.
		{"4 0 -4 0 1", "1 2", true}, {"4 0 -4 0 1 " + string(tiny), "1 2", true}, {"4 0 -4 0 1 -" + string(tiny), "1 2", false}, {"4 0 -4 0 1 -" + string(tiny), "-2 -1", true},
	} {
		if is, e := filter.Nonneg(nums(t, c.p), span(t, c.a)); is != c.want || e != api.OK {
			t.Errorf("Nonneg of %s on %s = %t, %d", c.p, c.a, is, e)
		}
	}
	touching := poly.Mul(times(nums(t, "-2 0 1"), 10), times(nums(t, "-3 0 1"), 10))
	if is, e := filter.Nonneg(touching, span(t, "0 7/3")); !is || e != api.OK {
		t.Errorf("Nonneg of the greatest degree = %t, %d", is, e)
	}
	for _, p := range [][]value.Num{power(41), power(90)} {
		if is, e := filter.Nonneg(p, span(t, "1 2")); is || e != api.ErrLong {
			t.Errorf("Nonneg = %t, %d", is, e)
		}
	}
}

// hasWitness holds what Meets returns for a band that is not met against the definition, level by level, up to some level.
func hasWitness(t *testing.T, num, den []value.Num, b api.FlBand, at value.Num, levels int) {
	t.Helper()
	n, d, w := fracs(num), fracs(den), frac(value.Text(at))
	want := witness(n, d, b, levels)
	if want != nil {
		if want.Cmp(w) != 0 {
			t.Errorf("%s over %s, %v: the witness is %s, not %s", show(num), show(den), b, w, want)
		}
		return
	}
	if isBetween(n, d, b, w) || w.Cmp(frac(b.Lo)) < 0 || w.Cmp(frac(b.Hi)) > 0 {
		t.Errorf("%s over %s, %v: %s is no witness", show(num), show(den), b, w)
	}
	// It is an odd multiple of a part that is a power of two.
	part := over(minus(w, frac(b.Lo)), minus(frac(b.Hi), frac(b.Lo)))
	if bottom := part.Denom(); bottom.BitLen()-1 != int(bottom.TrailingZeroBits()) || bottom.BitLen()-1 < levels {
		t.Errorf("%s over %s, %v: %s is not met before", show(num), show(den), b, w)
	}
}

func TestP8_6Meets(t *testing.T) {
	g := newNumbers()
	met, unmet := 0, 0
	for range 500 {
		num, den := g.poly(4), g.poly(4)
		bands := g.bands(num, den)
		want := slices.IndexFunc(bands, func(b api.FlBand) bool { return !isMet(fracs(num), fracs(den), b) })
		band, at, e := filter.Meets(num, den, bands)
		if band != want || e != api.OK {
			t.Fatalf("Meets of %s over %s, %v = %d, %d, not %d", show(num), show(den), bands, band, e, want)
		}
		if want < 0 {
			met++
			if value.Sign(at) != 0 {
				t.Errorf("with a mask that is met there is the witness %s", value.Text(at))
			}
			continue
		}
		unmet++
		hasWitness(t, num, den, bands[band], at, 7)
	}
	if met < 100 || unmet < 100 {
		t.Errorf("%d masks are met, %d are not", met, unmet)
	}
}

// Each of these bands is met, or is met but for some numbers that are hard to find.
func TestP8_6MeetsAtEdges(t *testing.T) {
	for _, c := range []struct {
		num, den, mask string
		band           int
		at             api.Val
	}{
		{"1", "1 1", "0 0 1 1", -1, "0"}, {"1", "1 1", "3 3 1/10 1/10", -1, "0"}, {"1", "1 1", "3 3 1/9 1", 0, "3"}, {"1", "1 1", "3 3 0 1/11", 0, "3"},
		{"0", "0", "0 1 1 2", -1, "0"}, {"1", "0", "0 1 0 1000", 0, "0"}, {"0 1", "0", "0 1 0 5", 0, "1"}, {"0 1", "0 1", "0 9 1 1", -1, "0"}, {"", "1", "0 7 0 0", -1, "0"},
		// At both ends too small, and too great in the middle alone; the peak at 1 is 1.
		{"0 1", "1 1 1", "0 4 0 99/100", 0, "1"}, {"0 1", "1 1 1", "0 4 0 1", -1, "0"}, {"0 1", "1 1 1", "0 3 0 1", -1, "0"}, {"0 1", "1 1 1", "0 3 0 999/1000", 0, "63/64"},
		{"0 1", "1 1 1", "0 3 0 1/2", 0, "3/2"},
		// Too small at the middle, too great at the first quarter.
		{"1 0 1", "1", "0 2 1/2 2", 0, "2"}, {"1 0 1", "1", "0 1 1/2 2", 0, "1"}, {"1 0 1", "1", "1/2 5/4 1/100 1/3", 0, "1/2"}, {"1 0 1", "1", "1/2 5/4 1/100 9/16", 0, "31/32"},
		{"2 0 1", "1", "1 3/2 1/10000 1", 0, "181/128"},
		// The first one that is not met.
		{"1", "1 1", "0 1 1/2 1, 0 2 0 1, 5 6 1 1, 0 0 2 2", 2, "5"},
	} {
		band, at, e := filter.Meets(nums(t, c.num), nums(t, c.den), mask(c.mask))
		if band != c.band || value.Text(at) != c.at || e != api.OK {
			t.Errorf("Meets of %s over %s, %s = %d, %s, %d, not %d, %s", c.num, c.den, c.mask, band, value.Text(at), e, c.band, c.at)
		}
		if band >= 0 {
			hasWitness(t, nums(t, c.num), nums(t, c.den), mask(c.mask)[band], at, 10)
		}
	}
}

// A notch: the square of 2 - w w is too small in a span around the root of 2 that no search would find.
func TestP8_6MeetsNarrowNotch(t *testing.T) {
	for _, zeros := range []int{20, 100, 400} {
		least := "1/1" + strings.Repeat("0", zeros)
		b := mask("0 5 " + least + " 1000")[0]
		band, at, e := filter.Meets(nums(t, "2 0 1"), nums(t, "1"), []api.FlBand{b})
		if band != 0 || e != api.OK {
			t.Fatalf("Meets = %d, %d", band, e)
		}
		// On the way to the root of 2 by halving, the first number that is near enough.
		lo, hi := new(big.Rat), whole(5)
		for {
			mid := over(plus(lo, hi), whole(2))
			if d := minus(whole(2), product(mid, mid)); product(d, d).Cmp(frac(api.Val(least))) < 0 {
				if textOf(mid) != value.Text(at) {
					t.Errorf("the witness is %.100s, not %.100s", value.Text(at), mid)
				}
				break
			} else if d.Sign() > 0 {
				lo = mid
			} else {
				hi = mid
			}
		}
	}
}

func TestP8_6ErrorsOfMeets(t *testing.T) {
	one, long := nums(t, "1"), string(digits(1001))
	good := "0 1 0 1"
	for _, c := range []struct {
		mask string
		e    api.Errno
	}{
		{"", api.ErrRange}, {strings.Repeat(good+",", 7), api.ErrRange}, {strings.Repeat(good+",", 6), api.OK}, {strings.Repeat("x x x x,", 7), api.ErrRange},
		{"x 1 0 1", api.ErrForm}, {long + " 1 0 1", api.ErrLong}, {"0 x 0 1", api.ErrForm}, {"0 1 x 1", api.ErrForm}, {"0 1 0 x", api.ErrForm},
		{"-1 x 0 1", api.ErrForm}, {"2 1 0 " + long, api.ErrLong}, {"2 1 -1 01", api.ErrForm}, {long + " x x x", api.ErrLong}, {"0 " + long + " 2/4 1", api.ErrLong},
		{"-1 1 0 1", api.ErrRange}, {"2 1 0 1", api.ErrRange}, {"0 1 -1/2 1", api.ErrRange}, {"0 1 1 1/2", api.ErrRange}, {"-2 -1 0 1", api.ErrRange},
		{good + ", 2 1 0 1, x 0 0 0", api.ErrRange}, {good + ", 0 0 0 x, 2 1 0 1", api.ErrForm}, {"1 1 1 1", api.OK}, {"0 0 0 0", api.OK}, {"0 1 0 " + string(digits(1000)), api.OK},
	} {
		band, at, e := filter.Meets(one, one, mask(c.mask))
		if e != c.e || e != api.OK && (band != 0 || value.Sign(at) != 0) {
			t.Errorf("Meets with %.100q = %d, %s, %d, not %d", c.mask, band, value.Text(at), e, c.e)
		}
	}
	for _, c := range [][2][]value.Num{{power(21), one}, {one, power(21)}, {power(41), nil}, {nil, power(90)}} {
		band, at, e := filter.Meets(c[0], c[1], nil)
		if band != 0 || value.Sign(at) != 0 || e != api.ErrLong {
			t.Errorf("Meets of too great a degree = %d, %s, %d", band, value.Text(at), e)
		}
	}
	if band, _, e := filter.Meets(power(20), power(20), mask("0 7 1 1")); band != -1 || e != api.OK {
		t.Errorf("Meets of the greatest degree = %d, %d", band, e)
	}
}

func TestP8_12Meets(t *testing.T) {
	g := newNumbers()
	met := 0
	for range 300 {
		num, den := g.hurwitz(g.below(4)), g.hurwitz(1+g.below(4))
		bands := g.bands(num, den)
		band, at, e := filter.Meets(num, den, bands)
		if e != api.OK {
			t.Fatal(e)
		}
		if band >= 0 {
			hasWitness(t, num, den, bands[band], at, 1)
			bands = bands[:band]
		} else {
			met++
		}
		for _, b := range bands {
			s := span(t, string(b.Lo+" "+b.Hi))
			for range 20 {
				w := value.Add(s.Lo, value.Mul(ratio(g.below(101), 100), value.SpanWidth(s)))
				if !isBetween(fracs(num), fracs(den), b, frac(value.Text(w))) {
					t.Errorf("%s over %s: %v is not met at %s", show(num), show(den), b, value.Text(w))
				}
			}
		}
	}
	if met < 50 || met > 250 {
		t.Errorf("%d masks are met", met)
	}
}
