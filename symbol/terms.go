package symbol

import (
	"bytes"
	"slices"

	"pentode/api"
	"pentode/value"
)

// powers are those of the variables; of those that a polynomial does not have they are 0. On the way to a result they may be
// up to twice the limit.
type powers [api.MaxVars]byte

func (p powers) times(q powers) powers {
	for v, n := range q {
		p[v] += n
	}
	return p
}

// areHigh reports whether a power is above the limit.
func (p powers) areHigh() bool {
	return slices.Max(p[:]) > api.MaxSyPow
}

// term is a number times powers of variables.
type term struct {
	pows powers
	coef value.Num
}

func (t term) negative() term {
	return term{t.pows, value.Neg(t.coef)}
}

// terms are a polynomial in canonical form, which may be too long.
type terms []term

// sum collects terms by their powers.
type sum map[powers]value.Num

func (s sum) add(list ...term) {
	for _, t := range list {
		s[t.pows] = value.Add(s[t.pows], t.coef)
	}
}

func (s sum) addProduct(p, q terms) {
	for _, a := range p {
		for _, b := range q {
			s.add(term{a.pows.times(b.pows), value.Mul(a.coef, b.coef)})
		}
	}
}

// terms returns the canonical form of the sum.
func (s sum) terms() terms {
	p := make(terms, 0, len(s))
	for pows, coef := range s {
		if value.Sign(coef) != 0 {
			p = append(p, term{pows, coef})
		}
	}
	slices.SortFunc(p, func(a, b term) int { return bytes.Compare(a.pows[:], b.pows[:]) })
	return p
}

// times returns the product, or ErrLong if a power in it is above the limit.
func (p terms) times(q terms) (terms, api.Errno) {
	// The terms with the highest powers of a variable in both have a product that is not 0, and no other ones reach its power.
	if p.degrees().times(q.degrees()).areHigh() {
		return nil, api.ErrLong
	}
	s := sum{}
	s.addProduct(p, q)
	return s.terms(), api.OK
}

// degrees are the greatest powers of the variables.
func (p terms) degrees() powers {
	var most powers
	for _, t := range p {
		for v, n := range t.pows {
			most[v] = max(most[v], n)
		}
	}
	return most
}

// scaled is the product with a number that is not 0.
func (p terms) scaled(x value.Num) terms {
	product := make(terms, len(p))
	for i, t := range p {
		product[i] = term{t.pows, value.Mul(t.coef, x)}
	}
	return product
}

func (p terms) negative() terms {
	return p.scaled(value.Int(-1))
}

// derivative is that by the variable v. It keeps the order of the terms.
func (p terms) derivative(v int) terms {
	var slope terms
	for _, t := range p {
		if n := t.pows[v]; n > 0 {
			t.pows[v]--
			slope = append(slope, term{t.pows, value.Mul(t.coef, value.Int(int64(n)))})
		}
	}
	return slope
}

// isLong reports whether the polynomial is too long.
func (p terms) isLong() bool {
	isBeyond := func(t term) bool { return t.pows.areHigh() || value.Digits(t.coef) > api.MaxDigits }
	return len(p) > api.MaxSyTerms || slices.ContainsFunc(p, isBeyond)
}

// parsed returns the terms of a polynomial as they stand, or the error of Check.
func parsed(p []api.SyTerm, vars int) ([]term, api.Errno) {
	switch {
	case vars < 0 || vars > api.MaxVars:
		return nil, api.ErrRange
	case len(p) > api.MaxSyTerms:
		return nil, api.ErrLong
	}
	list := make([]term, len(p))
	for i, t := range p {
		coef, e := value.Parse(t.Coef)
		if e != api.OK {
			return nil, e
		}
		if len(t.Pows) != vars {
			return nil, api.ErrArg
		}
		list[i].coef = coef
		for v, n := range t.Pows {
			if n < 0 || n > api.MaxSyPow {
				return nil, api.ErrRange
			}
			list[i].pows[v] = byte(n)
		}
	}
	return list, api.OK
}

// canonical returns the canonical form of a polynomial, or the error of Check.
func canonical(p []api.SyTerm, vars int) (terms, api.Errno) {
	list, e := parsed(p, vars)
	if e != api.OK {
		return nil, e
	}
	s := sum{}
	s.add(list...)
	return s.terms(), api.OK
}

// bothCanonical is canonical for two polynomials.
func bothCanonical(p, q []api.SyTerm, vars int) (a, b terms, e api.Errno) {
	a, e = canonical(p, vars)
	if e != api.OK {
		return nil, nil, e
	}
	b, e = canonical(q, vars)
	if e != api.OK {
		return nil, nil, e
	}
	return a, b, api.OK
}

// written returns a polynomial with texts, or ErrLong if it is too long.
func (p terms) written(vars int) ([]api.SyTerm, api.Errno) {
	if p.isLong() {
		return nil, api.ErrLong
	}
	list := make([]api.SyTerm, len(p))
	for i, t := range p {
		list[i] = api.SyTerm{Coef: value.Text(t.coef), Pows: make([]int, vars)}
		for v := range vars {
			list[i].Pows[v] = int(t.pows[v])
		}
	}
	return list, api.OK
}

// bothWritten is written for two polynomials.
func bothWritten(p, q terms, vars int) (a, b []api.SyTerm, e api.Errno) {
	a, e = p.written(vars)
	if e != api.OK {
		return nil, nil, e
	}
	b, e = q.written(vars)
	if e != api.OK {
		return nil, nil, e
	}
	return a, b, api.OK
}
