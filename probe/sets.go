package probe

import (
	"iter"
	"math/bits"

	"pentode/api"
	"pentode/value"
)

// pairs has, for each pair of faults (also of 0 and one), the set of Outs each of which tells them apart.
func (k task) pairs() ([]int, api.Errno) {
	d, e := k.dictionary()
	if e != api.OK {
		return nil, e
	}
	var shown [][]value.Span
	for _, p := range d {
		shown = append(shown, k.readings(spansOf(p)))
	}
	var list []int
	for i, spans := range shown {
		for _, earlier := range shown[:i] {
			list = append(list, apart(spans, earlier))
		}
	}
	return list, api.OK
}

// readings are those that are possible for values of Outs in some spans.
func (k task) readings(values []value.Span) []value.Span {
	var list []value.Span
	for i, s := range values {
		list = append(list, k.meters[i].readings(s))
	}
	return list
}

// apart is the set of Outs whose spans have no number in common.
func apart(some, others []value.Span) int {
	set := 0
	for i, s := range some {
		if _, meet := value.SpanMeet(s, others[i]); !meet {
			set |= 1 << i
		}
	}
	return set
}

// toldBy is how many pairs a set of Outs tells apart.
func toldBy(set int, pairs []int) int {
	told := 0
	for _, by := range pairs {
		if by&set != 0 {
			told++
		}
	}
	return told
}

// sets yields all sets with at most so many of Outs, those with fewer first, then those with lesser numbers.
func sets(outs, most int) iter.Seq[int] {
	return func(yield func(int) bool) {
		for size := range most + 1 {
			for set := range 1 << outs {
				if bits.OnesCount(uint(set)) == size && !yield(set) {
					return
				}
			}
		}
	}
}
