package net_test

import (
	"math/big"
	"slices"
	"strings"
	"testing"

	"pentode/api"
	"pentode/net"
	"pentode/value"
)

// rat is a number of the library, by which the laws are written again here.
func rat(t testing.TB, v api.Val) *big.Rat {
	t.Helper()
	x, is := new(big.Rat).SetString(string(v))
	if !is {
		t.Fatalf("%q is no number", v)
	}
	return x
}

// valOf is the text of a number of the library.
func valOf(x *big.Rat) api.Val { return api.Val(x.RatString()) }

// lawOf is what Law returns, which must not be an error.
func lawOf(t testing.TB, m api.Model, g, v *big.Rat) *big.Rat {
	t.Helper()
	x, e := net.Law(m, num(t, string(valOf(g))), num(t, string(valOf(v))))
	if e != api.OK {
		t.Fatalf("Law of %v at %s, %s = %d", m, g, v, e)
	}
	return rat(t, value.Text(x))
}

// pieceAt is the value of a piece, power by power.
func pieceAt(t testing.TB, piece []api.Val, v *big.Rat) *big.Rat {
	sum, power := new(big.Rat), big.NewRat(1, 1)
	for _, c := range piece {
		sum.Add(sum, new(big.Rat).Mul(rat(t, c), power))
		power.Mul(power, v)
	}
	return sum
}

// randomCurve is a valid curve with so many pieces: each is a line or more, moved to the value of the one before it at their break.
func (g *numbers) randomCurve(t testing.TB, pieces int) api.Model {
	m := api.Model{Kind: api.MdCurve}
	at := big.NewRat(int64(g.below(9)-12), 2)
	for k := range pieces {
		piece := make([]api.Val, 1+g.below(4))
		for i := range piece {
			piece[i] = g.val()
		}
		if k > 0 {
			at.Add(at, big.NewRat(int64(1+g.below(9)), int64(1+g.below(4))))
			m.Breaks = append(m.Breaks, valOf(at))
			gap := pieceAt(t, m.Pieces[k-1], at)
			gap.Sub(gap, pieceAt(t, piece, at))
			piece[0] = valOf(gap.Add(gap, rat(t, piece[0])))
		}
		m.Pieces = append(m.Pieces, piece)
	}
	return m
}

func TestP3_3Curves(t *testing.T) {
	r := newNumbers()
	for i := range 300 {
		m := r.randomCurve(t, 1+i%6)
		for range 12 {
			v := rat(t, r.val())
			want := new(big.Rat)
			// from above, so that the last piece that holds is the one that is found
			for k := range slices.Backward(m.Pieces) {
				if k == 0 || v.Cmp(rat(t, m.Breaks[k-1])) >= 0 {
					want = pieceAt(t, m.Pieces[k], v)
					break
				}
			}
			if got := lawOf(t, m, rat(t, r.val()), v); got.Cmp(want) != 0 {
				t.Fatalf("Law of %v at %s = %s, not %s", m, v, got, want)
			}
		}
	}
}

// squareLaw is the chapter's definition, written with the library's numbers.
func squareLaw(kp, vt, g, v *big.Rat) *big.Rat {
	neg := func(x *big.Rat) *big.Rat { return new(big.Rat).Neg(x) }
	sub := func(x, y *big.Rat) *big.Rat { return new(big.Rat).Sub(x, y) }
	mul := func(x, y *big.Rat) *big.Rat { return new(big.Rat).Mul(x, y) }
	half := big.NewRat(1, 2)
	if v.Sign() < 0 {
		return neg(squareLaw(kp, vt, sub(g, v), neg(v)))
	}
	o := sub(g, vt)
	switch {
	case o.Sign() <= 0:
		return new(big.Rat)
	case v.Cmp(o) <= 0:
		return mul(kp, sub(mul(o, v), mul(half, mul(v, v))))
	}
	return mul(mul(kp, half), mul(o, o))
}

func TestP3_3Squares(t *testing.T) {
	r := newNumbers()
	for range 4000 {
		kp, vt, g, v := r.above(), r.val(), rat(t, r.val()), rat(t, r.val())
		m := api.Model{Kind: api.MdSquare, Kp: kp, Vt: vt}
		if got, want := lawOf(t, m, g, v), squareLaw(rat(t, kp), rat(t, vt), g, v); got.Cmp(want) != 0 {
			t.Fatalf("Law of %v at %s, %s = %s, not %s", m, g, v, got, want)
		}
	}
}

func TestP3_3Errors(t *testing.T) {
	for _, c := range slices.Concat(badCurves(), badSquares()) {
		if x, e := net.Law(c.m, num(t, "1"), num(t, "2")); e != c.e || value.Sign(x) != 0 {
			t.Errorf("%s: Law = %s, %d, not %d", c.what, value.Text(x), e, c.e)
		}
	}
}

func TestP3_3LongNumbers(t *testing.T) {
	far := strings.Repeat("9", 300)
	m := api.Model{Kind: api.MdCurve, Pieces: [][]api.Val{{"0", "0", "0", api.Val(far)}}}
	want := pieceAt(t, m.Pieces[0], rat(t, api.Val(far)))
	if got := lawOf(t, m, new(big.Rat), rat(t, api.Val(far))); got.Cmp(want) != 0 {
		t.Errorf("Law of a long number is wrong")
	}
}

func TestP3_11Curves(t *testing.T) {
	r := newNumbers()
	for i := range 200 {
		m := r.randomCurve(t, 2+i%5)
		for k, at := range m.Breaks {
			v := rat(t, at)
			left, right := pieceAt(t, m.Pieces[k], v), pieceAt(t, m.Pieces[k+1], v)
			if got := lawOf(t, m, new(big.Rat), v); got.Cmp(left) != 0 || got.Cmp(right) != 0 {
				t.Fatalf("at the break %s: %s, with %s and %s", at, got, left, right)
			}
		}
		// g makes no difference
		if v := rat(t, r.val()); lawOf(t, m, rat(t, r.val()), v).Cmp(lawOf(t, m, rat(t, r.val()), v)) != 0 {
			t.Fatalf("Law of %v at %s has two values", m, v)
		}
	}
}

func TestP3_11Squares(t *testing.T) {
	r := newNumbers()
	half := big.NewRat(1, 2)
	zero := new(big.Rat)
	for range 600 {
		m := api.Model{Kind: api.MdSquare, Kp: r.above(), Vt: r.val()}
		kp, vt, g, v := rat(t, m.Kp), rat(t, m.Vt), rat(t, r.val()), rat(t, r.val())
		// drain and source exchanged
		there := lawOf(t, m, g, v)
		back := lawOf(t, m, new(big.Rat).Sub(g, v), new(big.Rat).Neg(v))
		if there.Cmp(back.Neg(back)) != 0 {
			t.Fatalf("%v at %s, %s: %s, and %s the other way", m, g, v, there, back)
		}
		// o = 0, v = 0, and v = o, where both formulas are o o Kp / 2
		if x := lawOf(t, m, vt, new(big.Rat).Abs(v)); x.Sign() != 0 {
			t.Fatalf("%v at o = 0: %s", m, x)
		}
		if x := lawOf(t, m, g, zero); x.Sign() != 0 {
			t.Fatalf("%v at v = 0: %s", m, x)
		}
		if o := new(big.Rat).Sub(g, vt); o.Sign() > 0 {
			want := new(big.Rat).Mul(o, o)
			want.Mul(want, kp).Mul(want, half)
			beyond := lawOf(t, m, g, new(big.Rat).Add(o, half))
			if x := lawOf(t, m, g, o); x.Cmp(want) != 0 || beyond.Cmp(want) != 0 {
				t.Fatalf("%v at v = o: %s, beyond %s, not %s", m, x, beyond, want)
			}
		}
	}
}
