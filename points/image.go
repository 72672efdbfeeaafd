package points

import "pentode/value"

// image returns that of a box with these slopes, by a point and a matrix.
func (c circuit) image(box []value.Span, slopes [][]value.Span, mid []value.Num, inv [][]value.Num) []value.Span {
	residual := equations(c, numbers{}, mid)
	away := make([]value.Span, c.size)
	for k, s := range box {
		away[k] = value.SpanSub(s, value.Point(mid[k]))
	}
	image := make([]value.Span, c.size)
	for i, row := range inv {
		centre := value.Sub(mid[i], product(row, residual))
		sum := value.Point(centre)
		for k := range box {
			sum = value.SpanAdd(sum, value.SpanMul(rest(i, k, row, slopes), away[k]))
		}
		image[i] = sum
	}
	return image
}

// product is the sum of the products of numbers.
func product(x, y []value.Num) value.Num {
	var sum value.Num
	for k := range x {
		sum = value.Add(sum, value.Mul(x[k], y[k]))
	}
	return sum
}

// rest is what the unit matrix has in the row i and the column k, less what the product of a matrix, with this row i, and
// the slopes has there.
func rest(i, k int, row []value.Num, slopes [][]value.Span) value.Span {
	var sum value.Span
	for j, y := range row {
		s := slopes[j][k]
		if value.Sign(y) != 0 && !isZero(s) { // most slopes of a net are 0
			sum = value.SpanAdd(sum, value.SpanMul(value.Point(y), s))
		}
	}
	if i == k {
		return value.SpanSub(one(), sum)
	}
	return value.SpanNeg(sum)
}

func isZero(s value.Span) bool {
	return value.Sign(s.Lo) == 0 && value.Sign(s.Hi) == 0
}

// common returns what a box and its image have in common, and whether this is anything for each of the unknowns.
func common(box, image []value.Span) ([]value.Span, bool) {
	meets := make([]value.Span, len(box))
	for i := range box {
		meet, ok := value.SpanMeet(image[i], box[i])
		if !ok {
			return nil, false
		}
		meets[i] = meet
	}
	return meets, true
}

// isInside returns whether each span of an image lies inside that of its box, without touching its ends.
func isInside(box, image []value.Span) bool {
	for i, s := range image {
		if value.Cmp(box[i].Lo, s.Lo) >= 0 || value.Cmp(s.Hi, box[i].Hi) >= 0 {
			return false
		}
	}
	return true
}

// contains returns whether each span of a box contains that of another one.
func contains(box, other []value.Span) bool {
	for i, s := range other {
		if !spanContains(box[i], s) {
			return false
		}
	}
	return true
}

func spanContains(outer, inner value.Span) bool {
	return value.Cmp(outer.Lo, inner.Lo) <= 0 && value.Cmp(inner.Hi, outer.Hi) <= 0
}
