package net

import (
	"slices"
	"strings"

	"pentode/api"
	"pentode/value"
)

// isName returns whether a word is a name.
func isName(word string) bool {
	return isNode(word) && isLetter(word[0])
}

// isNode returns whether a word is the name of a node.
func isNode(word string) bool {
	if word == "" || len(word) > api.MaxName || !isLetter(word[0]) && !isDigit(word[0]) {
		return false
	}
	for i := range len(word) {
		if c := word[i]; !isLetter(c) && !isDigit(c) && c != '.' && c != '_' {
			return false
		}
	}
	return true
}

func isLetter(c byte) bool { return c >= 'a' && c <= 'z' }

func isDigit(c byte) bool { return c >= '0' && c <= '9' }

// words goes through the words of a line. The first one that is not what it has to be makes it bad for good, so that a line is read to its end before it is asked whether all was right.
type words struct {
	first string // what the line is
	rest  []string
	bad   bool
	fixed bool      // whether values may not name parameters
	long  api.Errno // the error of the first number that has one
	named []string  // the parameters that values name
}

// split returns the words of a line, or nil if it means nothing.
func split(line string) *words {
	all := strings.FieldsFunc(line, func(c rune) bool { return c == ' ' })
	if len(all) == 0 || all[0][0] == '*' {
		return nil
	}
	return &words{first: all[0], rest: all[1:]}
}

// must makes the words bad if something is not right.
func (w *words) must(right bool) {
	w.bad = w.bad || !right
}

// peek returns the next word, or nothing if there is none, or one was bad.
func (w *words) peek() string {
	if w.bad || len(w.rest) == 0 {
		return ""
	}
	return w.rest[0]
}

// more returns whether there is another word, and none was bad.
func (w *words) more() bool { return w.peek() != "" }

// take returns the next word, or nothing, which is right in no place.
func (w *words) take() string {
	word := w.peek()
	if word != "" {
		w.rest = w.rest[1:]
	}
	return word
}

// name returns the next word, which has to be a name.
func (w *words) name() string {
	word := w.take()
	w.must(isName(word))
	return word
}

// node returns the next word, which has to be that of a node.
func (w *words) node() string {
	word := w.take()
	w.must(isNode(word))
	return word
}

// want returns the next word, which has to be one of those that are given.
func (w *words) want(these ...string) string {
	word := w.take()
	w.must(slices.Contains(these, word))
	return word
}

// until cuts off the words before the first one that is equal to the given one, or all if none is.
func (w *words) until(end string) *words {
	n := slices.Index(w.rest, end)
	if n < 0 {
		n = len(w.rest)
	}
	before := &words{rest: w.rest[:n], bad: w.bad}
	w.rest = w.rest[n:]
	return before
}

// end returns the error of the words, all of which have to be taken.
func (w *words) end() api.Errno {
	if w.bad || len(w.rest) > 0 {
		return api.ErrForm
	}
	return w.long
}

// value returns the next words as a value.
func (w *words) value() expr {
	word := w.take()
	if word != "{" {
		return w.operand(word)
	}
	x := w.sum(0)
	w.want("}")
	return x
}

// sum returns the next words as a sum, within so many levels of parentheses.
func (w *words) sum(level int) expr {
	x := w.product(level)
	for w.peek() == "+" || w.peek() == "-" {
		sign := w.take()
		x = pair{sign, x, w.product(level)}
	}
	return x
}

func (w *words) product(level int) expr {
	x := w.factor(level)
	for w.peek() == "*" || w.peek() == "/" {
		sign := w.take()
		x = pair{sign, x, w.factor(level)}
	}
	return x
}

func (w *words) factor(level int) expr {
	switch word := w.take(); word {
	case "-":
		return negative{w.factor(level)}
	case "(":
		// a bad word ends the reading of what is in too many parentheses
		w.must(level < api.MaxDepth)
		x := w.sum(level + 1)
		w.want(")")
		return x
	default:
		return w.operand(word)
	}
}

// operand returns a word as the name of a parameter, or as a number.
func (w *words) operand(word string) expr {
	if isName(word) {
		w.must(!w.fixed)
		w.named = append(w.named, word)
		return param(word)
	}
	x, e := value.Read(word)
	switch {
	case e == api.ErrForm:
		w.must(false)
	case w.long == api.OK:
		w.long = e
	}
	return number{x}
}

// piece returns the next words, up to a | or the end, as the coefficients of a piece.
func (w *words) piece() []expr {
	piece := []expr{w.value()}
	for w.more() && w.peek() != "|" {
		piece = append(piece, w.value())
	}
	return piece
}

// nodes returns all further words as nodes, of which there has to be one.
func (w *words) nodes() []string {
	nodes := []string{w.node()}
	for w.more() {
		nodes = append(nodes, w.node())
	}
	return nodes
}

// settings returns all further words as parameters with their values, if there are any.
func (w *words) settings() []setting {
	if !w.more() {
		return nil
	}
	w.want("with")
	list := []setting{{w.name(), w.value()}}
	for w.more() {
		list = append(list, setting{w.name(), w.value()})
	}
	return list
}
