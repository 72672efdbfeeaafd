package net

import (
	"slices"
	"strings"

	"pentode/api"
)

// Order reports whether a file is in order.
func Order(f api.NtFile) (bool, api.Errno) {
	if _, _, e := Check(f.Net); e != api.OK {
		return false, e
	}
	isOther := func(word string) bool { return isNode(word) && word != "0" }
	return areNames(f.Nodes, f.Net.Nodes, isOther) &&
		areNames(f.Elems, len(f.Net.Elems), isName) &&
		areNames(f.Models, len(f.Net.Models), isName) &&
		isNumbered(f.Net), api.OK
}

// areNames returns whether a list has so many names, no two of which are equal.
func areNames(list []string, count int, is func(string) bool) bool {
	if len(list) != count {
		return false
	}
	for _, word := range list {
		if !is(word) {
			return false
		}
	}
	return !hasTwice(list)
}

// isNumbered returns whether the nodes of a net are numbered in the order in which its elements have them.
func isNumbered(n api.Net) bool {
	known := 0
	for _, el := range n.Elems {
		for _, node := range nodesOf(el) {
			if node > known+1 {
				return false
			}
			known = max(known, node)
		}
	}
	return known == n.Nodes
}

// Print writes a file that is in order.
func Print(f api.NtFile) (string, api.Errno) {
	is, e := Order(f)
	if e != api.OK {
		return "", e
	}
	if !is {
		return "", api.ErrForm
	}
	var text strings.Builder
	for i, m := range f.Net.Models {
		writeLine(&text, slices.Concat([]string{"model", f.Models[i]}, modelWords(m)))
	}
	for i, el := range f.Net.Elems {
		writeLine(&text, elemWords(f, f.Elems[i], el))
	}
	if text.Len() > api.MaxNetText {
		return "", api.ErrLong
	}
	return text.String(), api.OK
}

func writeLine(text *strings.Builder, line []string) {
	text.WriteString(strings.Join(line, " "))
	text.WriteByte('\n')
}

// modelWords returns the words behind the name of a model.
func modelWords(m api.Model) []string {
	if m.Kind == api.MdSquare {
		return []string{"square", string(m.Kp), string(m.Vt)}
	}
	list := []string{"curve"}
	for k, piece := range m.Pieces {
		if k > 0 {
			list = append(list, "|", string(m.Breaks[k-1]), "|")
		}
		for _, c := range piece {
			list = append(list, string(c))
		}
	}
	return list
}

// elemWords returns the words of an element's line.
func elemWords(f api.NtFile, name string, el api.Elem) []string {
	s := shapes[el.Kind]
	list := []string{s.word, name}
	for _, node := range nodesOf(el) {
		if node == 0 {
			list = append(list, "0")
		} else {
			list = append(list, f.Nodes[node-1])
		}
	}
	switch {
	case s.ref == elemRef:
		list = append(list, f.Elems[el.Ref])
	case s.ref == stateRef && el.Ref == 1:
		list = append(list, "on")
	case s.ref == stateRef:
		list = append(list, "off")
	}
	if s.model != 0 {
		list = append(list, f.Models[el.Model])
	}
	if s.val != noVal {
		list = append(list, string(el.Val))
	}
	return list
}
