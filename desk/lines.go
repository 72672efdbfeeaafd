package desk

import (
	"slices"
	"strconv"
	"strings"

	"pentode/api"
	"pentode/value"
)

// sentence is a line of an output: how it begins, and the words behind that.
func sentence[S ~string](begin string, others ...S) string {
	words := []string{begin}
	for _, word := range others {
		words = append(words, string(word))
	}
	return strings.Join(words, " ")
}

// boxes are a line for each box.
func boxes(list ...[]api.Range) []string {
	var lines []string
	for _, box := range list {
		var ends []api.Val
		for _, r := range box {
			ends = append(ends, r.Lo, r.Hi)
		}
		lines = append(lines, sentence("box", ends...))
	}
	return lines
}

// terms are a line for each term of a polynomial.
func terms(first string, p []api.SyTerm) []string {
	var lines []string
	for _, t := range p {
		lines = append(lines, sentence(first+" "+string(t.Coef), integers(t.Pows...)...))
	}
	return lines
}

// integers are the texts of integers.
func integers(list ...int) []string {
	var texts []string
	for _, n := range list {
		texts = append(texts, strconv.Itoa(n))
	}
	return texts
}

// vals are the texts of numbers.
func vals(list []value.Num) []api.Val {
	var texts []api.Val
	for _, x := range list {
		texts = append(texts, value.Text(x))
	}
	return texts
}

// ranges are those between numbers that come in pairs.
func ranges(ends []value.Num) []api.Range {
	var list []api.Range
	for pair := range slices.Chunk(ends, 2) {
		list = append(list, api.Range{Lo: value.Text(pair[0]), Hi: value.Text(pair[1])})
	}
	return list
}

// numbered are names that end with the numbers from 1 on.
func numbered(begin string, count int) []string {
	var names []string
	for i := range count {
		names = append(names, begin+strconv.Itoa(i+1))
	}
	return names
}
