package value_test

import (
	"math/big"
	"strings"
	"testing"

	"pentode/api"
	"pentode/value"
)

// parse is the number with the text s, which has to be valid.
func parse(t testing.TB, s string) value.Num {
	t.Helper()
	x, e := value.Parse(api.Val(s))
	if e != api.OK {
		t.Fatalf("Parse(%.40q) = %d", s, e)
	}
	return x
}

// text is Text as a string.
func text(x value.Num) string {
	return string(value.Text(x))
}

// span has its ends as they are told, in order or not.
func span(t testing.TB, lo, hi string) value.Span {
	t.Helper()
	return value.Span{Lo: parse(t, lo), Hi: parse(t, hi)}
}

// spanText shows a span by its fields alone.
func spanText(a value.Span) string {
	return text(a.Lo) + " to " + text(a.Hi)
}

// rat is the number with this text, in the library's numbers, which the tests hold the program's against.
func rat(t testing.TB, s string) *big.Rat {
	t.Helper()
	r, ok := new(big.Rat).SetString(s)
	if !ok {
		t.Fatalf("no number: %.40q", s)
	}
	return r
}

// ratOf is x in the library's numbers.
func ratOf(t testing.TB, x value.Num) *big.Rat {
	t.Helper()
	return rat(t, text(x))
}

// numOf is r in the program's numbers, of any length.
func numOf(t testing.TB, r *big.Rat) value.Num {
	t.Helper()
	q, e := value.Div(integerOf(t, r.Num()), integerOf(t, r.Denom()))
	if e != api.OK {
		t.Fatalf("Div = %d", e)
	}
	return q
}

// integerOf puts an integer together from rows of digits that are short enough for Parse.
func integerOf(t testing.TB, n *big.Int) value.Num {
	t.Helper()
	const row = 900
	digits := new(big.Int).Abs(n).String()
	digits = strings.Repeat("0", row-len(digits)%row) + digits
	unit, z := parse(t, "1"+strings.Repeat("0", row)), value.Int(0)
	for ; digits != ""; digits = digits[row:] {
		part := strings.TrimLeft(digits[:row], "0")
		if part == "" {
			part = "0"
		}
		z = value.Add(value.Mul(z, unit), parse(t, part))
	}
	if n.Sign() < 0 {
		return value.Neg(z)
	}
	return z
}

// numbers gives the same numbers in each run.
type numbers struct{ state uint64 }

func newNumbers() *numbers {
	return &numbers{state: 88172645463325252}
}

func (g *numbers) word() uint64 {
	g.state ^= g.state << 13
	g.state ^= g.state >> 7
	g.state ^= g.state << 17
	return g.state
}

// below is an int from 0 to n - 1.
func (g *numbers) below(n int) int {
	return int(g.word() % uint64(n))
}

// integer has about so many bits, many of them often in rows of the same ones.
func (g *numbers) integer(bits int) *big.Int {
	z := new(big.Int)
	for left := bits; left > 0; {
		n := min(left, 1+g.below(64))
		z.Lsh(z, uint(n))
		switch g.below(4) {
		case 0:
			z.Or(z, new(big.Int).SetUint64(1<<n-1))
		case 1:
		default:
			z.Or(z, new(big.Int).SetUint64(g.word()>>(64-n)))
		}
		left -= n
	}
	return z
}

// rat is a number with parts of up to so many bits.
func (g *numbers) rat(bits int) *big.Rat {
	top, bottom := g.integer(g.below(bits+1)), g.integer(g.below(bits+1))
	switch g.below(4) {
	case 0:
		bottom.SetInt64(1)
	case 1:
		bottom.Lsh(big.NewInt(1), uint(g.below(bits+1)))
	}
	if bottom.Sign() == 0 {
		bottom.SetInt64(3)
	}
	if g.below(2) == 0 {
		top.Neg(top)
	}
	return new(big.Rat).SetFrac(top, bottom)
}

// edges are numbers at the bounds of words, of prefixes, and around 0.
func edges() []string {
	return []string{
		"0", "1", "-1", "2", "-2", "7", "1/2", "-1/2", "1/3", "-1/3", "-3/8", "5/16", "3/8", "25/36", "-7/12",
		"999", "1000", "-1000", "1/1000", "1/1024", "-1/10000000", "999999/1000", "1000000/1001",
		"9223372036854775807", "-9223372036854775808", "18446744073709551615", "18446744073709551616", "-18446744073709551617",
		"1/18446744073709551615", "-1/18446744073709551616", "18446744073709551616/18446744073709551615",
		"340282366920938463463374607431768211455", "340282366920938463463374607431768211456/3",
		"-340282366920938463463374607431768211457/18446744073709551616", "1/340282366920938463463374607431768211455",
	}
}
