package spread

import (
	"slices"

	"pentode/value"
)

// verdict is what a box is for a range.
type verdict int

const (
	open verdict = iota
	good
	bad
)

// search cuts a box into parts, to find those that are good.
type search struct {
	whole []value.Span
	judge func(box []value.Span) verdict
	parts []part
}

// part is a box within the whole one.
type part struct {
	box     []value.Span
	volume  value.Num
	verdict verdict
}

func searchOf(whole []value.Span, judge func(box []value.Span) verdict) search {
	return search{whole, judge, []part{{whole, value.Int(1), judge(whole)}}}
}

// none is in place of the number of a parameter.
const none = -1

// run cuts open parts as often as it is told, or until there is nothing to cut.
func (s *search) run(cuts int) {
cutting:
	for range cuts {
		switch at, param := s.next(); param {
		case none:
			break cutting
		default:
			s.cut(at, param)
		}
	}
}

// next is the open part with the greatest volume, and the parameter by which it is cut, or none.
func (s *search) next() (at, param int) {
	at = none
	for i, p := range s.parts {
		if p.verdict == open && (at == none || value.Cmp(p.volume, s.parts[at].volume) > 0) {
			at = i
		}
	}
	if at == none {
		return 0, none
	}
	return at, s.widest(s.parts[at].box)
}

// widest is the parameter whose range has the greatest part of its width in the whole box, or none if all ranges are points.
func (s *search) widest(box []value.Span) int {
	widest := none
	var most value.Num
	for i, span := range box {
		width := value.SpanWidth(span)
		if value.Sign(width) == 0 {
			continue
		}
		if part := over(width, value.SpanWidth(s.whole[i])); widest == none || value.Cmp(part, most) > 0 {
			widest, most = i, part
		}
	}
	return widest
}

// cut puts both halves of a part in its place.
func (s *search) cut(at, param int) {
	from := s.parts[at]
	middle := value.SpanMid(from.box[param])
	lower, upper := slices.Clone(from.box), slices.Clone(from.box)
	lower[param].Hi, upper[param].Lo = middle, middle
	volume := over(from.volume, value.Int(2))
	s.parts = slices.Replace(s.parts, at, at+1, part{lower, volume, s.judge(lower)}, part{upper, volume, s.judge(upper)})
}

// volume is that of all parts with a verdict.
func (s *search) volume(v verdict) value.Num {
	var sum value.Num
	for _, p := range s.parts {
		if p.verdict == v {
			sum = value.Add(sum, p.volume)
		}
	}
	return sum
}
