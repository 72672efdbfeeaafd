package net_test

import (
	"slices"
	"strconv"
	"strings"
	"testing"

	"pentode/api"
	"pentode/net"
)

// told looks at what Parse says of a text, and that there is no file with an error.
func told(t *testing.T, text string, line int, e api.Errno) {
	t.Helper()
	f, l, got := net.Parse(text)
	if l != line || got != e {
		t.Errorf("Parse(%.300q) = %d, %d, not %d, %d", text, l, got, line, e)
	}
	if got != api.OK && !sameFile(f, api.NtFile{}) {
		t.Errorf("Parse(%.300q) has a file and the error %d", text, got)
	}
}

// front is what a line is put behind, that there is something that it can name: outside or in a subcircuit, which is the second one.
func front(inside bool) []string {
	list := []string{"model k curve 0", "model q square 1 1", "sub s a b with p 1 o 2", "r r1 a b p", "ends"}
	if inside {
		list = append(list, "sub t a with n 1 m 2")
	}
	return append(list, "v v1 a 0 1")
}

// alone looks at what Parse says of a line behind those of front.
func alone(t *testing.T, inside bool, line string, e api.Errno) {
	t.Helper()
	list := append(front(inside), line)
	at := len(list)
	if inside {
		list = append(list, "ends")
	}
	if e == api.OK {
		at = 0
	}
	told(t, lines(list...), at, e)
}

func TestP3_6Texts(t *testing.T) {
	told(t, "", 0, api.OK)
	told(t, "\n", 0, api.OK)
	told(t, "   \n\n\n", 0, api.OK)
	told(t, "*\n  * a model b\n*x\x00\xff\t\r\n", 0, api.OK)
	told(t, "v a 1 0 1\n* without an end", 0, api.ErrForm)
	told(t, "v a 1 0 1", 0, api.ErrForm)
	told(t, " ", 0, api.ErrForm)
	told(t, "x", 0, api.ErrForm)
	comment := "*" + strings.Repeat("c", api.MaxNetText-2) + "\n"
	told(t, comment, 0, api.OK)
	told(t, "c"+comment, 0, api.ErrLong)
	told(t, comment+"x", 0, api.ErrLong)
	told(t, strings.Repeat("\n", api.MaxNetText), 0, api.OK)
	told(t, strings.Repeat(" ", api.MaxNetText+1), 0, api.ErrLong)
	told(t, strings.Repeat("\n", api.MaxNetText-2)+"w\n", api.MaxNetText-1, api.ErrForm)
	for _, f := range []string{"v a 1 0 1\r\n", "v a\t1 0 1\n", "v a 1 0 1\u00a0\n", "v a 1 0 \xff\n", "\x00\n", "\t\n", "\t* c\n"} {
		told(t, f, 1, api.ErrForm)
	}
	if s := flat(t, "", "   v    a  1 0     1   ", "  *", "\x20r b 1 0 2"); s != "v a 1 0 1\nr b 1 0 2" {
		t.Errorf("blanks: %q", s)
	}
}

// right are lines without an error behind those of front, both outside and inside but where they say so.
func right() []string {
	return []string{
		"r e a b 1", "c e a b 1k", "l e a b 1/3", "v e a b -2", "i e a b 0",
		"e e a b c d -1", "g e 0 0 0 0 1", "f e a b v1 2", "h e a b e 2", "d e a b k", "q e a b k",
		"m e a b c q", "s e a b on 1", "s e a b off 1",
		"r r 0 0 1", "r e.1_x..._ 0a.b_ 00 1", "r with with on 1", "s on on off on 1", "d model 1 2 k",
		"r e a b { 1 }", "r e a b { 1 + 2 }", "r e a b { - - 1 * ( 2 / 4.7k ) - -3 }",
		"x e a b s", "x e 0 0 s", "x e 1 2 s with o 4", "x e 1 2 s with o { 1 + 1 } p 2", "x with 1 2 s",
	}
}

func rightOutside() []string {
	return []string{
		"model e square 1 -1", "model e square { 1 + 1 } { - 2 }", "model e curve 1", "model e curve 1 2 3 4",
		"model e curve 0 | 1 | 1 -1", "model e curve { 0 } 0 | { 2 - 1 } | { 0 }", "model model curve 1",
		"sub e a\nends", "sub e a 1 00 b.\nends", "sub e a with a 1\nends", "sub s.x 1 with on 2 off { 3 * 1 }\nends", "sub with a with with 1\nends",
	}
}

func TestP3_6RightLines(t *testing.T) {
	for _, line := range right() {
		alone(t, false, line, api.OK)
		alone(t, true, line, api.OK)
	}
	for _, line := range rightOutside() {
		alone(t, false, line, api.OK)
	}
	alone(t, true, "r e a b n", api.OK)
	alone(t, true, "r e a b { n * m / ( n ) }", api.OK)
	alone(t, true, "x e a b s with p n o { m - 1 }", api.OK)
	alone(t, true, "ends\nsub u a", api.OK)
}

func TestP3_6WrongWords(t *testing.T) {
	for _, line := range []string{
		"w", "R e a b 1", "rr e a b 1", "model", "sub", "x", "r", "with", "|", "{", "ends ends", "ends 1", "end", "models e curve 1",
		// names and nodes
		"r E a b 1", "r 1 a b 1", "r _e a b 1", "r .e a b 1", "r e- a b 1", "r e _a b 1", "r e a .b 1", "r e A b 1", "r e a b,c 1", "r é a b 1",
		"f e a b 0 1", "h e a b 1v 1", "d e a b 1", "d e a b K", "m e a b c -", "model 1 curve 1", "model E square 1 1", "x 1 a b s", "x e a b S", "x e a b 1", "x e a b- s",
		"x e a b s with 1 1", "x e a b s with P 1",
		// values
		"r e a b 1K", "r e a b .5", "r e a b +1", "r e a b 1.", "r e a b 6/8", "r e a b 1/", "r e a b 1/0", "r e a b -", "r e a b *", "r e a b (", "r e a b { }", "r e a b {1}", "r e a b {", "r e a b }",
		"r e a b P", "x e a b s with p P", "x e a b s with p {", "model e square 1 x-", "model e curve x- ",
		// words that have to be
		"s e a b ON 1", "s e a b 1 1", "s e a b on", "s e a b 1", "model e cube 1", "model e curves 1", "model e curve 1 1 || 1", "x e a b s p 1",
	} {
		alone(t, false, line, api.ErrForm)
		alone(t, true, line, api.ErrForm)
	}
}

// One word more or less is an error in each line with as many words as it has to have.
func TestP3_6NumbersOfWords(t *testing.T) {
	for _, line := range right() {
		words := strings.Fields(line)
		if words[0] == "x" || strings.Contains(line, "{") {
			continue
		}
		for n := 1; n < len(words); n++ {
			alone(t, n%2 == 0, strings.Join(words[:n], " "), api.ErrForm)
		}
		alone(t, false, line+" 1", api.ErrForm)
		alone(t, true, line+" a", api.ErrForm)
	}
	for _, line := range []string{
		"model e", "model e square", "model e square 1", "model e square 1 1 1", "model e square 1 1 | 1 | 1 1", "model e curve",
		"model e curve |", "model e curve 1 |", "model e curve 1 | 1", "model e curve 1 | 1 |", "model e curve 1 | 1 | 1 |", "model e curve | 1 | 1", "model e curve 1 | | 1", "model e curve 1 | 1 2 | 1", "model e curve 1 | 1 | 1 | 2",
		"sub e", "sub e with", "sub e with p 1", "sub e a with", "sub e a with p", "sub e a with p 1 o", "sub e a p 1 with",
		"x e", "x e s", "x e a b s with", "x e a b s with p", "x e a b s with p 1 o", "x e with p 1", "x e s with p 1", "x e a b s with with", "x e a with s with p 1",
	} {
		alone(t, false, line, api.ErrForm)
		alone(t, true, line, api.ErrForm)
	}
}

func TestP3_6Names(t *testing.T) {
	long := "a" + strings.Repeat("b.", 19) + "_"
	if len(long) != api.MaxName {
		t.Fatal(len(long))
	}
	for _, c := range []string{"r N 1 0 1", "model N curve 1", "model N square 1 1", "sub N a\nends", "sub s a with N 1\nends", "sub s N\nends", "r r N 0 1", "r r 0 N 1", "e e 0 0 N 0 1", "g e 0 0 0 N 1"} {
		told(t, lines(strings.ReplaceAll(c, "N", long)), 0, api.OK)
		told(t, lines(strings.ReplaceAll(c, "N", long+"x")), 1, api.ErrForm)
	}
	for c := range 256 {
		if c == '\n' {
			continue
		}
		isLetter, isDigit := c >= 'a' && c <= 'z', c >= '0' && c <= '9'
		begins := string([]byte{byte(c), 'a'})
		for word, is := range map[string]bool{
			"r " + string([]byte{'a', byte(c)}) + " 1 2 1\n": isLetter || isDigit || c == '.' || c == '_' || c == ' ',
			"r " + begins + " 1 2 1\n":                       isLetter || c == ' ',
			"r a 1 " + begins + " 1\n":                       isLetter || isDigit || c == ' ',
		} {
			if is {
				told(t, word, 0, api.OK)
			} else {
				told(t, word, 1, api.ErrForm)
			}
		}
	}
	told(t, lines("sub s 0", "ends"), 1, api.ErrForm)
	told(t, lines("sub s a 0 b", "ends"), 1, api.ErrForm)
	told(t, lines("sub s 00 0a", "ends"), 0, api.OK)
}

// ports are so many names of ports.
func ports(n int) string {
	var list []string
	for i := range n {
		list = append(list, "n"+strconv.Itoa(i))
	}
	return strings.Join(list, " ")
}

func TestP3_6Ports(t *testing.T) {
	told(t, lines("sub s "+ports(20), "ends", "x x "+ports(20)+" s"), 0, api.OK)
	told(t, lines("sub s "+ports(21), "ends"), 1, api.ErrForm)
	told(t, lines("sub s "+ports(20)+" n0", "ends"), 1, api.ErrForm)
	told(t, lines("sub s a", "sub t "+ports(21)), 2, api.ErrForm)
	told(t, lines("sub s "+ports(20), "ends", "x x "+ports(21)+" s"), 3, api.ErrForm)
	told(t, lines("sub s "+ports(20), "ends", "x x "+ports(19)+" s"), 3, api.ErrForm)
	told(t, lines("sub s a b", "ends", "x x a a s"), 0, api.OK)
}

func TestP3_6LongNumbers(t *testing.T) {
	short, long, none := strings.Repeat("1", 400), strings.Repeat("1", 401), "1e9"
	fraction := "1/" + strings.Repeat("3", 1001)
	for _, c := range []string{"r e a b N", "r e a b { 1 + N }", "s e a b on N", "e e a b a b N", "x e a b s with p N", "x e a b s with p 1 o { N }"} {
		for _, inside := range []bool{false, true} {
			alone(t, inside, strings.Replace(c, "N", short, 1), api.OK)
			alone(t, inside, strings.Replace(c, "N", long, 1), api.ErrLong)
			alone(t, inside, strings.Replace(c, "N", "-"+long, 1), api.ErrLong)
			alone(t, inside, strings.Replace(c, "N", fraction, 1), api.ErrLong)
			alone(t, inside, strings.Replace(c, "N", none, 1), api.ErrForm)
		}
	}
	for _, c := range []string{"model e square N 1", "model e square 1 N", "model e curve N", "model e curve 1 | N | 1", "model e curve 1 | 1 | 1 N", "sub u a with p N"} {
		alone(t, false, strings.Replace(c, "N", long, 1), api.ErrLong)
		alone(t, false, strings.Replace(c, "N", none, 1), api.ErrForm)
		// the place comes behind the number
		alone(t, true, strings.Replace(c, "N", long, 1), api.ErrLong)
	}
	// the whole form comes first
	told(t, lines("r r1 1 0 { "+long+" + }"), 1, api.ErrForm)
	told(t, lines("r r1 1 0 { "+long+" + 6/8 }"), 1, api.ErrForm)
	told(t, lines("r r1 1 0 "+long+" 1"), 1, api.ErrForm)
	told(t, lines("sub s 0 with p "+long), 1, api.ErrForm)
	// the number comes before what is named, twice, or too much
	told(t, lines("r r1 1 0 1", "r r1 1 0 "+long), 2, api.ErrLong)
	told(t, lines("r r1 1 0 { k + "+long+" }"), 1, api.ErrLong)
	told(t, lines("sub s a a with p "+long), 1, api.ErrLong)
	told(t, lines("x e 1 s with p "+long), 1, api.ErrLong)
}

func TestP3_6Places(t *testing.T) {
	alone(t, true, "model e curve 1", net.ErrPlace)
	alone(t, true, "model e square 1 1", net.ErrPlace)
	alone(t, true, "sub e a", net.ErrPlace)
	alone(t, false, "ends", net.ErrPlace)
	told(t, lines("sub s a", "ends", "ends"), 3, net.ErrPlace)
	told(t, lines("sub s a", "r r1 1 0 { 1 / 0 }"), 3, net.ErrPlace)
	told(t, lines("model k curve { 1 / 0 }", "sub s a", "", "*"), 5, net.ErrPlace)
	// before what is there twice, and too much
	alone(t, true, "model k curve 1", net.ErrPlace)
	alone(t, true, "sub t a a with p 1 p 2", net.ErrPlace)
	alone(t, true, "sub s a with a 1 b 1 c 1 d 1 e 1 f 1 g 1", net.ErrPlace)
}

func TestP3_6Twice(t *testing.T) {
	for _, line := range []string{"v v1 a 0 1", "c v1 a 0 1", "x v1 a b s", "d v1 a b k"} {
		alone(t, false, line, net.ErrTwice)
		alone(t, true, line, net.ErrTwice)
	}
	alone(t, false, "r r1 a b 1", api.OK)
	alone(t, true, "r r1 a b 1", api.OK)
	alone(t, false, "model k square 1 1", net.ErrTwice)
	alone(t, false, "model q square 1 1", net.ErrTwice)
	alone(t, false, "model s square 1 1", api.OK)
	alone(t, false, "sub s a", net.ErrTwice)
	alone(t, false, "sub k a\nends", api.OK)
	alone(t, false, "sub v1 a with v1 1\nends", api.OK)
	alone(t, false, "sub u a b a", net.ErrTwice)
	alone(t, false, "sub u a with p 1 o 1 p 1", net.ErrTwice)
	alone(t, false, "x e a b s with p 1 o 1 p 1", net.ErrTwice)
	alone(t, true, "x e a b s with n 1 n 1", net.ErrTwice)
	told(t, lines("sub s a", "ends", "sub t b", "ends", "sub s c"), 5, net.ErrTwice)
	told(t, lines("sub s a", "ends", "x i 1 s", "x i 1 s"), 4, net.ErrTwice)
	told(t, lines("sub s a", "ends", "x i 1 s", "r i 1 0 1"), 4, net.ErrTwice)
	told(t, lines("sub s a", "r i a 0 1", "ends", "sub t a", "r i a 0 1", "r i a 0 1"), 6, net.ErrTwice)
	// before names that are not there, and too much
	alone(t, false, "d v1 a b z", net.ErrTwice)
	alone(t, false, "x v1 a b z", net.ErrTwice)
	alone(t, false, "x e a b z with p 1 p 2", net.ErrTwice)
	alone(t, false, "x e a s with z 1 z 2", net.ErrTwice)
	alone(t, false, "r v1 a b z", net.ErrTwice)
	alone(t, false, "sub s a with a 1 b 1 c 1 d 1 e 1 f 1 g 1", net.ErrTwice)
	alone(t, false, "sub u a with a 1 b 1 c 1 d 1 e 1 f 1 a 1", net.ErrTwice)
}

func TestP3_6NamesThatAreNotThere(t *testing.T) {
	for _, line := range []string{
		"d e a b z", "q e a b s", "m e a b c v1", "r e a b z", "r e a b { 1 + ( z ) }", "r e a b p", "s e a b on k", "v e a b { - v1 }",
		"x e a b z", "x e a b k", "x e a b v1", "x e a b s with z 1", "x e a b s with p 1 z 1", "x e a b s with n 1", "x e a b s with p o", "x e a b s with p { 1 + p }",
	} {
		alone(t, false, line, net.ErrName)
		alone(t, true, line, net.ErrName)
	}
	alone(t, false, "r e a b n", net.ErrName)
	alone(t, false, "x e a b s with p n", net.ErrName)
	alone(t, true, "x e a t", net.ErrName)
	alone(t, true, "x e a t with n 1", net.ErrName)
	// what comes later is not there yet; another subcircuit's parameters are not, either
	told(t, lines("d e a b k", "model k curve 1"), 1, net.ErrName)
	told(t, lines("sub s a", "d e a b k", "ends", "model k curve 1"), 2, net.ErrName)
	told(t, lines("x e a s", "sub s a", "ends"), 1, net.ErrName)
	told(t, lines("sub s a with p 1", "ends", "sub t a with q 1", "r e a 0 p"), 4, net.ErrName)
	told(t, lines("sub s a with p 1", "ends", "r e a 0 p"), 3, net.ErrName)
	// a model of the other kind is there
	told(t, lines("model k square 1 1", "q e a b k"), 3, api.ErrRange)
	told(t, lines("model k curve 1", "m e a b c k"), 3, api.ErrRange)
	// before the number of nodes, and too much
	alone(t, false, "x e a s with z 1", net.ErrName)
	alone(t, false, "x e a b c s with p z", net.ErrName)
	alone(t, false, "x e a b c z", net.ErrName)
}

func TestP3_6ValuesWithoutParameters(t *testing.T) {
	for _, line := range []string{"model e square p 1", "model e square 1 { p }", "model e curve k", "model e curve 1 | n | 1", "sub u a with p q", "sub u a with p 1 q p", "sub u a with p 1 q { 2 * p }"} {
		alone(t, false, line, api.ErrForm)
		alone(t, true, line, api.ErrForm)
	}
}

// many are n lines, with the numbers 0 and so on in the place of N.
func many(n int, line string) []string {
	var list []string
	for i := range n {
		list = append(list, strings.Split(strings.ReplaceAll(line, "N", strconv.Itoa(i)), "\n")...)
	}
	return list
}

func TestP3_6Limits(t *testing.T) {
	told(t, lines(many(8, "model mN curve 1")...), 0, api.OK)
	told(t, lines(many(9, "model mN curve 1")...), 9, api.ErrLong)
	told(t, lines(many(10, "sub sN a\nends")...), 0, api.OK)
	told(t, lines(many(11, "sub sN a\nends")...), 21, api.ErrLong)
	six := "sub s a with a 1 b 2 c 3 d 4 e 5 f 6"
	told(t, lines(six, "ends"), 0, api.OK)
	told(t, lines(six+" g 7", "ends"), 1, api.ErrLong)
	told(t, lines(many(60, "r rN 1 0 1")...), 0, api.OK)
	told(t, lines(many(61, "r rN 1 0 1")...), 61, api.ErrLong)
	empty := []string{"sub s a", "ends"}
	told(t, lines(append(empty, many(60, "x xN 1 s")...)...), 0, api.OK)
	told(t, lines(append(empty, many(61, "x xN 1 s")...)...), 63, api.ErrLong)
	mixed := slices.Concat(empty, many(30, "x xN 1 s\nr rN 1 0 1"))
	told(t, lines(mixed...), 0, api.OK)
	told(t, lines(append(mixed, "x y 1 s")...), 63, api.ErrLong)
	// in a subcircuit likewise; each place for itself
	inside := slices.Concat(empty, []string{"sub t a"}, many(60, "r rN 1 0 1"))
	told(t, lines(append(inside, "ends")...), 0, api.OK)
	told(t, lines(append(inside, "r r 1 0 1")...), 64, api.ErrLong)
	told(t, lines(slices.Concat(inside, []string{"ends"}, many(60, "r rN 1 0 1"))...), 0, api.OK)
	// other errors of a line come first
	told(t, lines(append(many(8, "model mN curve 1"), "model m3 curve 1")...), 9, net.ErrTwice)
	full := slices.Concat(empty, many(60, "r rN 1 0 1"))
	for line, e := range map[string]api.Errno{
		"r r7 1 0 1": net.ErrTwice, "r r 1 0 k": net.ErrName, "d d 1 0 k": net.ErrName, "x x 1 2 s": api.ErrForm, "x x 1 s": api.ErrLong, "r r 1 0 1 1": api.ErrForm,
	} {
		told(t, lines(append(full, line)...), 63, e)
	}
}

// The first line with an error decides, then the first error of it.
func TestP3_6FirstLine(t *testing.T) {
	told(t, lines("r a 1 0 k", "w"), 1, net.ErrName)
	told(t, lines("* c", "", "r a 1 0 1", "r a 1 0 1", "w"), 4, net.ErrTwice)
	told(t, lines("sub s a", "r a 1 0 1", "r a 1 0 1", "w"), 3, net.ErrTwice)
	told(t, lines("r a 1 0 { 1 / 0 }", "w"), 2, api.ErrForm)
}
