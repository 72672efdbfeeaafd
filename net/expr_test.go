package net_test

import (
	"math/big"
	"strings"
	"testing"

	"pentode/api"
	"pentode/net"
)

// valued looks at the Val of an element with a value.
func valued(t *testing.T, val string, want api.Val) {
	t.Helper()
	if got := read(t, "v a 1 0 "+val).Net.Elems[0].Val; got != want {
		t.Errorf("%.200s is %.80s, not %.80s", val, got, want)
	}
}

func TestP3_6Values(t *testing.T) {
	for val, want := range map[string]api.Val{
		"4.7k": "4700", "007": "7", "-0": "0", "1/3": "1/3", "-100n": "-1/10000000",
		"{ 1 }": "1", "{ 4.7k }": "4700", "{ -1/3 }": "-1/3", "{ ( 1 ) }": "1", "{   7   }": "7",
		"{ 1 + 2 * 3 }": "7", "{ 2 * 3 + 1 }": "7", "{ 1 - 2 - 3 }": "-4", "{ 8 / 2 / 2 }": "2", "{ 8 / ( 2 / 2 ) }": "8", "{ 1 - ( 2 - 3 ) }": "2",
		"{ 12 / 2 * 3 }": "18", "{ 1 + 2 - 3 + 4 }": "4", "{ 1 - 2 * 3 - 4 }": "-9",
		"{ - 1 + 2 }": "1", "{ - ( 1 + 2 ) }": "-3", "{ 2 - - 1 }": "3", "{ - - - 1 }": "-1", "{ 2 * - 3 }": "-6", "{ 2 * - ( 1 + 1 ) * 2 }": "-8", "{ 6 / - 2 }": "-3", "{ - 2 * - 2 }": "4", "{ 1 - -1 }": "2",
		"{ 1/2 + 1/3 }": "5/6", "{ 1k * 1m }": "1", "{ 0 / 5 }": "0", "{ ( ( 1 + 2 ) * ( 3 - 4 ) ) / 5 }": "-3/5",
	} {
		valued(t, val, want)
	}
}

func TestP3_6WrongExpressions(t *testing.T) {
	for _, sum := range []string{
		"", "+", "-", "*", "+ 1", "* 1", "1 +", "1 -", "1 *", "1 /", "1 + + 1", "1 * / 1", "1 1", "1 -1", "k k", "1 k", "( )", "( 1", "1 )", ") 1 (", "( 1 ) )", "( ( 1 )", "( 1 ) 2", "2 ( 1 )", "( 1 + )",
		"1+1", "(1)", "-( 1 )", "{ 1 }", "1 { + } 1", "1 } + 1", "} 1 {", "1 ^ 2", "1 % 2", "1,5", "|", "2K", "6/8", "-k", "- ", "1 - - ", "1 ** 2",
	} {
		told(t, lines("sub s a with k 1", "v v a 0 { "+sum+" }", "ends"), 2, api.ErrForm)
		told(t, lines("sub s a with k 1", "s v a 0 on { "+sum+" }", "ends"), 2, api.ErrForm)
	}
	told(t, lines("v v a 0 { 1"), 1, api.ErrForm)
	told(t, lines("v v a 0 1 }"), 1, api.ErrForm)
	told(t, lines("v v a 0 ( 1 )"), 1, api.ErrForm)
	told(t, lines("v v a 0 - 1"), 1, api.ErrForm)
	told(t, lines("v v a 0 1 + 1"), 1, api.ErrForm)
	told(t, lines("v v a 0 { 1 } 1"), 1, api.ErrForm)
}

// nested is an expression in so many levels of parentheses.
func nested(levels int, open string) string {
	return "{ " + strings.Repeat(open, levels) + "1" + strings.Repeat(" )", levels) + " }"
}

func TestP3_6Parentheses(t *testing.T) {
	valued(t, nested(8, "( "), "1")
	valued(t, nested(8, "- ( - "), "1")
	valued(t, nested(8, "1 + ( "), "9")
	valued(t, nested(8, "2 * ( "), "256")
	for _, open := range []string{"( ", "- ( - ", "1 + ( ", "2 * ( "} {
		told(t, lines("v a 1 0 "+nested(9, open)), 1, api.ErrForm)
		told(t, lines("v a 1 0 "+nested(2000, open)), 1, api.ErrForm)
	}
	// side by side there may be more
	valued(t, "{ 0"+strings.Repeat(" + ( 1 )", 50)+" }", "50")
	side := strings.Trim(nested(8, "( "), "{ }")
	valued(t, "{ "+side+" + "+side+" }", "2")
	told(t, lines("v a 1 0 { ( 1 + "+side+" ) }"), 1, api.ErrForm)
}

func TestP3_6LongExpressions(t *testing.T) {
	valued(t, "{ "+strings.Repeat("- ", 14000)+"1 }", "1")
	valued(t, "{ 0"+strings.Repeat(" + 1", 7000)+" }", "7000")
	valued(t, "{ 1"+strings.Repeat(" / 1", 7000)+" }", "1")
	valued(t, "{ 1"+strings.Repeat(" - 1 * -1", 3000)+" }", "3001")
}

// sum is a random expression with its value, nil if it divides by 0; a product and a factor likewise.
func (g *numbers) sum(level int) (string, *big.Rat) {
	s, x := g.product(level)
	for range g.below(3) {
		u, y := g.product(level)
		sign := g.below(2)
		s += " " + "+-"[sign:sign+1] + " " + u
		switch {
		case x == nil || y == nil:
			x = nil
		case sign == 0:
			x = new(big.Rat).Add(x, y)
		default:
			x = new(big.Rat).Sub(x, y)
		}
	}
	return s, x
}

func (g *numbers) product(level int) (string, *big.Rat) {
	s, x := g.factor(level)
	for range g.below(3) {
		u, y := g.factor(level)
		sign := g.below(2)
		s += " " + "*/"[sign:sign+1] + " " + u
		switch {
		case x == nil || y == nil || sign == 1 && y.Sign() == 0:
			x = nil
		case sign == 0:
			x = new(big.Rat).Mul(x, y)
		default:
			x = new(big.Rat).Quo(x, y)
		}
	}
	return s, x
}

func (g *numbers) factor(level int) (string, *big.Rat) {
	switch c := g.below(6); {
	case c == 0:
		s, x := g.factor(level)
		if x != nil {
			x = new(big.Rat).Neg(x)
		}
		return "- " + s, x
	case c < 3 && level < 3:
		s, x := g.sum(level + 1)
		return "( " + s + " )", x
	case c == 3:
		// the parameters of the tests are 1/2, -3 and 0
		n := g.below(3)
		return []string{"k", "ab.c", "z_0"}[n], []*big.Rat{big.NewRat(1, 2), big.NewRat(-3, 1), new(big.Rat)}[n]
	}
	v := g.val()
	x, _ := new(big.Rat).SetString(string(v))
	return string(v), x
}

func TestP3_6RandomExpressions(t *testing.T) {
	g := newNumbers()
	zeros := 0
	for range 3000 {
		s, x := g.sum(0)
		text := lines("sub s a with k 1/2 ab.c { 0 - 3 } z_0 0", "v v a 0 { "+s+" }", "ends", "x x 1 s")
		f, line, e := net.Parse(text)
		switch {
		case x == nil:
			zeros++
			if line != 5 || e != api.ErrZero {
				t.Fatalf("%s = %d, %d", s, line, e)
			}
		case e != api.OK || f.Net.Elems[0].Val != valOf(x):
			t.Fatalf("%s = %v, %d, not %s", s, f, e, x)
		}
	}
	if zeros < 100 {
		t.Errorf("only %d divisions by 0", zeros)
	}
}

func TestP3_6Digits(t *testing.T) {
	// the number 10^999 has 1000 digits, and 10^1000 one more
	k, l := "1"+strings.Repeat("0", 399), "1"+strings.Repeat("0", 200)
	thousand := k + " * " + k + " * " + l + " * 10"
	told(t, lines("v a 1 0 { "+thousand+" }"), 0, api.OK)
	told(t, lines("v a 1 0 { "+thousand+" * 10 }"), 2, api.ErrLong)
	told(t, lines("v a 1 0 { - ( "+thousand+" ) }"), 0, api.OK)
	told(t, lines("v a 1 0 { "+thousand+" * 10 / 10 }"), 2, api.ErrLong)
	told(t, lines("v a 1 0 { "+thousand+" / 10 * 10 }"), 0, api.OK)
	told(t, lines("v a 1 0 { 1 / ( "+thousand+" ) }"), 0, api.OK)
	told(t, lines("v a 1 0 { 1 / ( "+thousand+" ) / 10 }"), 2, api.ErrLong)
	told(t, lines("v a 1 0 { 5 * ( "+thousand+" ) + 5 * ( "+thousand+" ) }"), 2, api.ErrLong)
	told(t, lines("v a 1 0 { -5 * ( "+thousand+" ) - 5 * ( "+thousand+" ) }"), 2, api.ErrLong)
	told(t, lines("v a 1 0 { 0 * ( "+thousand+" * 10 ) }"), 2, api.ErrLong)
}

// What comes first from the left decides between a division by 0 and too many digits.
func TestP3_6OperandByOperand(t *testing.T) {
	far := "1" + strings.Repeat("0", 399)
	long := "( " + far + " * " + far + " * " + far + " )"
	for s, e := range map[string]api.Errno{
		"( 1 / 0 ) + " + long:      api.ErrZero,
		long + " + ( 1 / 0 )":      api.ErrLong,
		"1 / 0 * " + long:          api.ErrZero,
		long + " / 0":              api.ErrLong,
		"1 / 0":                    api.ErrZero,
		"0 / 0":                    api.ErrZero,
		"1 / ( 1 - 1 )":            api.ErrZero,
		"1 - 1 / 0":                api.ErrZero,
		"0 * ( 1 / 0 )":            api.ErrZero,
		"- ( 1 / 0 )":              api.ErrZero,
		"1 / ( 0 * " + long + " )": api.ErrLong,
	} {
		told(t, lines("v a 1 0 { "+s+" }"), 2, e)
	}
}
