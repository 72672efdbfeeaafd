package filter

import (
	"math"
	"slices"

	"pentode/api"
	"pentode/poly"
	"pentode/value"
)

// Square returns the square of the size of a polynomial, as one in w.
func Square(p []value.Num) ([]value.Num, api.Errno) {
	if isHigh(p) {
		return nil, api.ErrLong
	}
	return inW(square(p)), api.OK
}

// isHigh reports whether the degree is above the limit for squares.
func isHigh(p []value.Num) bool {
	return poly.Deg(p) > api.MaxOrder
}

// square is the square of the size of p(j w), as a polynomial in w w, as it has no odd powers of w.
func square(p []value.Num) []value.Num {
	var parts [2][]value.Num // the real part, and the imaginary one divided by w
	for k, c := range p {
		if k%4 >= 2 {
			c = value.Neg(c)
		}
		parts[k%2] = append(parts[k%2], c)
	}
	w2 := []value.Num{value.Int(0), value.Int(1)}
	re, im := poly.Mul(parts[0], parts[0]), poly.Mul(parts[1], parts[1])
	return poly.Add(re, poly.Mul(w2, im))
}

// inW is a polynomial in w w, as one in w.
func inW(p []value.Num) []value.Num {
	var q []value.Num
	for k, c := range p {
		if k > 0 {
			q = append(q, value.Int(0))
		}
		q = append(q, c)
	}
	return q
}

// Meets tells the first band of a mask that is not met, and a frequency.
func Meets(num, den []value.Num, mask []api.FlBand) (band int, at value.Num, e api.Errno) {
	if isHigh(num) || isHigh(den) {
		return 0, value.Num{}, api.ErrLong
	}
	bands, e := bandsOf(mask)
	if e != api.OK {
		return 0, value.Num{}, e
	}
	f := responseOf(num, den)
	i := f.firstUnmet(bands)
	if i < 0 {
		return i, value.Num{}, api.OK
	}
	return i, f.witness(bands[i]), api.OK
}

// band is a band with numbers in place of texts.
type band struct {
	ends        value.Span
	least, most value.Num
}

// bandsOf reads a mask.
func bandsOf(mask []api.FlBand) ([]band, api.Errno) {
	if len(mask) == 0 || len(mask) > api.MaxBands {
		return nil, api.ErrRange
	}
	var bands []band
	for _, from := range mask {
		b, e := bandOf(from)
		if e != api.OK {
			return nil, e
		}
		bands = append(bands, b)
	}
	return bands, api.OK
}

func bandOf(from api.FlBand) (band, api.Errno) {
	var numbers [4]value.Num
	for i, v := range [...]api.Val{from.Lo, from.Hi, from.Least, from.Most} {
		x, e := value.Parse(v)
		if e != api.OK {
			return band{}, e
		}
		numbers[i] = x
	}
	lo, hi, least, most := numbers[0], numbers[1], numbers[2], numbers[3]
	if value.Sign(lo) < 0 || value.Cmp(lo, hi) > 0 || value.Sign(least) < 0 || value.Cmp(least, most) > 0 {
		return band{}, api.ErrRange
	}
	return band{value.Span{Lo: lo, Hi: hi}, least, most}, api.OK
}

// response is the squares of a numerator and of a denominator, as polynomials in w w, times the same number.
type response struct{ num, den []value.Num }

func responseOf(num, den []value.Num) response {
	unit := multiplier(slices.Concat(num, den)...)
	return response{square(poly.Scale(num, unit)), square(poly.Scale(den, unit))}
}

// firstUnmet is the number of the first band that is not met, or -1.
func (f response) firstUnmet(bands []band) int {
	return slices.IndexFunc(bands, func(b band) bool {
		above, below := f.distances(b)
		return !areNonneg(value.SpanPow(b.ends, 2), above, below)
	})
}

// distances are how far the square is above its least value, and below its greatest one: where a band is met, none is below 0.
func (f response) distances(b band) (above, below []value.Num) {
	above = poly.Sub(f.num, poly.Scale(f.den, b.least))
	below = poly.Sub(poly.Scale(f.den, b.most), f.num)
	return above, below
}

// witness is that of a band that is not met.
func (f response) witness(b band) value.Num {
	above, below := f.distances(b)
	at, _ := cellOf(b.ends, inW(above), inW(below)).firstBelow(math.MaxInt)
	return value.Add(b.ends.Lo, value.Mul(at, value.SpanWidth(b.ends)))
}
