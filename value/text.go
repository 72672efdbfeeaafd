package value

import (
	"strings"

	"pentode/api"
)

// prefixes are the letters of engineering texts, and their powers of ten, ascending. Without a letter it is the power 0.
var prefixes = [10]struct {
	letter string
	power  int
}{
	{"f", -15}, {"p", -12}, {"n", -9}, {"u", -6}, {"m", -3}, {"", 0}, {"k", 3}, {"M", 6}, {"G", 9}, {"T", 12},
}

// Check checks a text.
func Check(v api.Val) api.Errno {
	_, e := Parse(v)
	return e
}

// Parse reads a text.
func Parse(v api.Val) (Num, api.Errno) {
	rows, below := strings.CutPrefix(string(v), "-")
	first, second, split := strings.Cut(rows, "/")
	switch {
	case !isRow(first) || first == "0" && (below || split):
		return Num{}, api.ErrForm
	case split && (!isRow(second) || second == "0" || second == "1"):
		return Num{}, api.ErrForm
	case len(first) > api.MaxDigits || len(second) > api.MaxDigits:
		return Num{}, api.ErrLong
	case !split:
		return integral(below, fromDigits(first)), api.OK
	}
	top, bottom := fromDigits(first), fromDigits(second)
	if !isOne(divisor(top, bottom)) {
		return Num{}, api.ErrForm
	}
	return fraction(below, top, bottom), api.OK
}

// isRow reports whether s is decimal digits without zeros at the beginning.
func isRow(s string) bool {
	return allDigits(s) && (s[0] != '0' || len(s) == 1)
}

// Text returns the text of a number.
func Text(x Num) api.Val {
	s := signText(x) + toDigits(x.top)
	if !x.whole() {
		s += "/" + toDigits(x.bottom)
	}
	return api.Val(s)
}

// signText returns what a text of x begins with.
func signText(x Num) string {
	if x.below {
		return "-"
	}
	return ""
}

// Digits returns how many digits the longer part has.
func Digits(x Num) int {
	return max(countDigits(x.top), countDigits(x.bottom))
}

// Read reads an engineering text.
func Read(s string) (Num, api.Errno) {
	if strings.Contains(s, "/") {
		return Parse(api.Val(s))
	}
	rest, below := strings.CutPrefix(s, "-")
	rest, power := cutPrefix(rest)
	front, behind, point := strings.Cut(rest, ".")
	if !allDigits(front) || point && !allDigits(behind) {
		return Num{}, api.ErrForm
	}
	if len(front)+len(behind) > api.MaxRead {
		return Num{}, api.ErrLong
	}
	digits := integral(below, fromDigits(front+behind))
	return Mul(digits, tens(power-len(behind))), api.OK
}

// cutPrefix returns s without the letter of a prefix at its end, and the power of ten of this prefix.
func cutPrefix(s string) (rest string, power int) {
	for _, p := range prefixes {
		if cut, is := strings.CutSuffix(s, p.letter); is && p.letter != "" {
			return cut, p.power
		}
	}
	return s, 0
}

// tens returns ten to the power n.
func tens(n int) Num {
	if n < 0 {
		return fraction(false, word(1), tenTo(-n))
	}
	return integral(false, tenTo(n))
}

// Show returns the engineering text of a number, if it has a short one, and otherwise its text.
func Show(x Num) string {
	if len(x.top) == 0 {
		return "0"
	}
	letter, power := prefixOf(x.size())
	if digits, is := shortDigits(Mul(x.size(), tens(-power))); is {
		return signText(x) + digits + letter
	}
	return string(Text(x))
}

// prefixOf returns the prefix of the short form of x, which is above 0.
func prefixOf(x Num) (letter string, power int) {
	best := prefixes[0]
	for _, p := range prefixes {
		if Cmp(x, tens(p.power)) >= 0 {
			best = p
		}
	}
	return best.letter, best.power
}

// shortDigits returns the decimal digits of x, which is above 0, if they are as few as a short form may have.
func shortDigits(x Num) (digits string, is bool) {
	units := Mul(x, tens(api.MaxShow))
	if !units.whole() || countDigits(units.top) > api.MaxRead+api.MaxShow {
		return "", false
	}
	all := strings.Repeat("0", api.MaxShow) + toDigits(units.top)
	point := len(all) - api.MaxShow
	front, behind := strings.TrimLeft(all[:point], "0"), strings.TrimRight(all[point:], "0")
	if front == "" {
		front = "0"
	}
	if len(front)+len(behind) > api.MaxRead {
		return "", false
	}
	if behind == "" {
		return front, true
	}
	return front + "." + behind, true
}
