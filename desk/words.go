package desk

import (
	"slices"
	"strconv"
	"strings"

	"pentode/api"
	"pentode/net"
	"pentode/value"
)

// split returns the words of a line.
func split(line string) []string {
	return strings.FieldsFunc(line, func(c rune) bool { return c == ' ' })
}

// words are the words of a line that are still to be taken, and those that were, by their kinds. They are looked at by their form alone.
type words struct {
	rest        []string
	nums        []value.Num
	late        api.Errno // the first error of a number: that of a form comes before it, also if it is in a later word
	ints        []int
	outs, elems []string
	each, fixed int // how many numbers there have to be for each unknown, behind how many others; none of both if a form has no BOX or POINT
}

// form takes all words as a row of the table says.
func (w *words) form(form string) {
	kinds := strings.Fields(form)
	for len(kinds) > 0 {
		end := 1
		switch kinds[0] {
		case "(":
			end = slices.Index(kinds, ")..") + 1
			w.many(kinds[1 : end-1]...)
		case "BOX":
			w.forEach(2)
		case "POINT":
			w.forEach(1)
		default:
			w.take(kinds[0])
		}
		kinds = kinds[end:]
	}
	if len(w.rest) > 0 {
		must(api.ErrForm)
	}
}

// forEach takes the numbers for the unknowns, so many for each.
func (w *words) forEach(each int) {
	w.each, w.fixed = each, len(w.nums)
	w.many("NUM")
}

// many takes words of some kinds as often as the next one is of the first kind.
func (w *words) many(kinds ...string) {
	for len(w.rest) > 0 && fits(w.rest[0], kinds[0]) {
		w.take(kinds...)
	}
}

// take takes the next words, one of each kind. It leaves a line in which a word is of another kind.
func (w *words) take(kinds ...string) {
	for _, kind := range kinds {
		if len(w.rest) == 0 || !fits(w.rest[0], kind) {
			must(api.ErrForm)
		}
		w.keep(w.rest[0], kind)
		w.rest = w.rest[1:]
	}
}

// keep keeps a word of a kind.
func (w *words) keep(word, kind string) {
	switch kind {
	case "NUM":
		x, e := value.Read(word)
		if w.late == api.OK {
			w.late = e
		}
		w.nums = append(w.nums, x)
	case "INT":
		n, _ := strconv.Atoi(word) // so few digits are those of an int
		w.ints = append(w.ints, n)
	case "UNKNOWN":
		w.outs = append(w.outs, word)
	case "ELEM":
		w.elems = append(w.elems, word)
	}
}

// fits returns whether a word has the form of a kind.
func fits(word, kind string) bool {
	switch kind {
	case "NUM":
		_, e := value.Read(word)
		return e != api.ErrForm
	case "INT":
		return isInt(word)
	case "UNKNOWN":
		if node, of := strings.CutPrefix(word, "v:"); of {
			return areNames(node, "r")
		}
		elem, of := strings.CutPrefix(word, "i:")
		return of && areNames("1", elem)
	case "ELEM":
		return areNames("1", word)
	}
	return word == kind
}

// isInt returns whether a word is an integer of at most 9 digits: just those are written again as they were.
func isInt(word string) bool {
	n, err := strconv.Atoi(word)
	return err == nil && strconv.Itoa(n) == word && n > -1e9 && n < 1e9
}

// areNames returns whether two words are the names of a node, which is not the ground, and of an element: package net has these definitions, and tells it by a file with both.
func areNames(node, elem string) bool {
	is, _ := net.Order(api.NtFile{
		Net:   api.Net{Nodes: 1, Elems: []api.Elem{{Kind: api.ElR, A: 1, Val: "1"}}},
		Nodes: []string{node},
		Elems: []string{elem},
	})
	return is
}
