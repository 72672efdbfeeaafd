package net_test

import (
	"math"
	"slices"
	"strings"
	"testing"

	"pentode/api"
	"pentode/net"
)

// digits is a number of so many digits.
func digits(n int) api.Val {
	return api.Val(strings.Repeat("7", n))
}

// found looks at what Check returns.
func found(t *testing.T, what string, n api.Net, part, at int, e api.Errno) {
	t.Helper()
	p, a, f := net.Check(n)
	if p != part || a != at || f != e {
		t.Errorf("%s: Check = %d, %d, %d, not %d, %d, %d", what, p, a, f, part, at, e)
	}
}

func TestP3_1ValidNets(t *testing.T) {
	found(t, "the empty net", api.Net{}, 0, 0, api.OK)
	found(t, "each kind", each(), 0, 0, api.OK)
	g := newNumbers()
	for i := range 300 {
		n := g.net(i%21, i%61)
		found(t, "a net", n, 0, 0, api.OK)
	}
	full := g.net(20, 60)
	full.Models = slices.Repeat([]api.Model{law()}, 8)
	full.Elems = slices.Repeat([]api.Elem{{Kind: api.ElM, A: 20, B: 20, C: 20, Model: 7}}, 60)
	found(t, "as much as there may be", full, 0, 0, api.OK)
}

func TestP3_1Sizes(t *testing.T) {
	for _, nodes := range []int{-1, 21, math.MinInt, math.MaxInt} {
		n := each()
		n.Nodes = nodes
		n.Models[0].Kind = 7
		n.Elems = make([]api.Elem, 61)
		found(t, "nodes", n, 0, 0, api.ErrRange)
	}
	n := each()
	n.Models[0].Kind = 7
	n.Elems = make([]api.Elem, 61)
	found(t, "elements", n, 0, 0, api.ErrLong)
	n = each()
	n.Models = make([]api.Model, 9)
	found(t, "models", n, 0, 0, api.ErrLong)
	n.Models = n.Models[:8]
	found(t, "8 models", n, 1, 0, api.ErrArg)
	n = each()
	n.Elems = make([]api.Elem, 60)
	found(t, "60 elements", n, 2, 0, api.ErrArg)
}

func TestP3_1FirstOfAll(t *testing.T) {
	n := each()
	n.Models = append(n.Models, law(), law())
	n.Elems[4].Val = "x"
	n.Elems[6].Kind = 0
	found(t, "two elements", n, 2, 4, api.ErrForm)
	n.Models[2].Vt = digits(1001)
	n.Models[3].Kind = 0
	found(t, "models before elements", n, 1, 2, api.ErrLong)
	n.Nodes = 21
	found(t, "nodes before models", n, 0, 0, api.ErrRange)
}

// bad is a model with an error; those of later rows of the chapter's table apply as well, where a test says so.
type bad struct {
	what string
	m    api.Model
	e    api.Errno
}

func curve(breaks []api.Val, pieces ...[]api.Val) api.Model {
	return api.Model{Kind: api.MdCurve, Breaks: breaks, Pieces: pieces}
}

func badCurves() []bad {
	type vals = []api.Val
	zero := vals{"0"}
	many := slices.Repeat([][]api.Val{zero}, 7)
	spare, turned := bend(), bend()
	spare.Kp = "0"
	turned.Vt = "1"
	turned.Pieces = many
	return []bad{
		{"Kp of a curve", spare, api.ErrArg},
		{"Vt of a curve, too many pieces", turned, api.ErrArg},
		{"too many pieces, no break", curve(nil, many...), api.ErrLong},
		{"too many pieces, and breaks", curve(vals{"1", "2", "3", "4", "5", "6"}, many...), api.ErrLong},
		{"too many coefficients, no break", curve(nil, zero, vals{"0", "0", "0", "0", "0"}), api.ErrLong},
		{"too many coefficients behind an empty piece", curve(nil, nil, vals{"x", "0", "0", "0", "0"}), api.ErrLong},
		{"no piece", curve(nil), api.ErrForm},
		{"no piece, a break", curve(vals{digits(1001)}), api.ErrForm},
		{"an empty piece", curve(vals{digits(1001)}, zero, nil), api.ErrForm},
		{"an empty piece alone", curve(nil, vals{}), api.ErrForm},
		{"too few breaks", curve(vals{digits(1001)}, zero, zero, zero), api.ErrForm},
		{"too many breaks", curve(vals{digits(1001)}, zero), api.ErrForm},
		{"a break that is too long, before one that is none", curve(vals{"1", digits(1001), "x"}, zero, vals{"x"}, zero, zero), api.ErrLong},
		{"a break that is none, before one that is too long", curve(vals{"1", "4/2", digits(1001)}, zero, zero, zero, zero), api.ErrForm},
		{"a break before coefficients", curve(vals{digits(1001)}, vals{"x"}, zero), api.ErrLong},
		{"the first coefficient", curve(vals{"2", "1"}, zero, vals{"1", digits(1001)}, vals{"x"}), api.ErrLong},
		{"the first coefficient of a piece", curve(vals{"2", "1"}, zero, vals{"1", "x", digits(1001)}, zero), api.ErrForm},
		{"breaks that descend", curve(vals{"1", "0"}, zero, zero, zero), api.ErrForm},
		{"equal breaks", curve(vals{"1/2", "1/2"}, zero, zero, zero), api.ErrForm},
		{"breaks that descend late", curve(vals{"-1/2", "-1/3", "-2/5"}, zero, zero, zero, zero), api.ErrForm},
		{"a jump", curve(vals{"1/2"}, zero, vals{"1", "2"}), api.ErrForm},
		{"a late jump", curve(vals{"0", "2"}, zero, vals{"0", "0", "0", "1"}, vals{"7"}), api.ErrForm},
	}
}

func badSquares() []bad {
	square := func(kp, vt api.Val) api.Model { return api.Model{Kind: api.MdSquare, Kp: kp, Vt: vt} }
	breaks, pieces := square("x", "1"), square("x", "1")
	breaks.Breaks = []api.Val{"1"}
	pieces.Pieces = [][]api.Val{nil}
	return []bad{
		{"breaks of a square", breaks, api.ErrArg},
		{"pieces of a square", pieces, api.ErrArg},
		{"no kind", api.Model{}, api.ErrArg},
		{"the kind 3", api.Model{Kind: 3, Kp: "1", Vt: "1"}, api.ErrArg},
		{"a great kind", api.Model{Kind: math.MaxInt, Kp: "1", Vt: "1"}, api.ErrArg},
		{"a kind below 0", api.Model{Kind: -1, Kp: "1", Vt: "1"}, api.ErrArg},
		{"Kp is none", square("", digits(1001)), api.ErrForm},
		{"Kp is too long", square(digits(1001), "x"), api.ErrLong},
		{"Vt is none", square("0", "1k"), api.ErrForm},
		{"Vt is too long", square("-1", digits(1001)), api.ErrLong},
		{"Kp is 0", square("0", "0"), api.ErrRange},
		{"Kp is below 0", square("-1/1000", "0"), api.ErrRange},
	}
}

func TestP3_1Models(t *testing.T) {
	for _, c := range slices.Concat(badCurves(), badSquares()) {
		n := api.Net{Models: []api.Model{law(), c.m}}
		found(t, c.what, n, 1, 1, c.e)
	}
	for _, m := range []api.Model{
		bend(), law(),
		curve(nil, []api.Val{"5"}),
		curve([]api.Val{}, []api.Val{"1", "2", "3", "4"}),
		curve([]api.Val{"-2", "-1", "0", "1", "2"}, []api.Val{"4"}, []api.Val{"0", "0", "1"}, []api.Val{"0", "-1"}, []api.Val{"0"}, []api.Val{"1", "-3", "3", "-1"}, []api.Val{"-1"}),
		{Kind: api.MdCurve, Pieces: [][]api.Val{{digits(1000)}}},
		{Kind: api.MdSquare, Kp: "1/1000", Vt: "-3", Breaks: []api.Val{}, Pieces: [][]api.Val{}},
	} {
		found(t, "a model", api.Net{Models: []api.Model{m}}, 0, 0, api.OK)
	}
}

// uses says what the kinds use beside A and B: + is Val above 0, v any Val.
func uses(kind int) string {
	return []string{"", "+", "+", "+", "v", "v", "CDv", "CDv", "Rv", "Rv", "M", "CM", "M", "S+"}[kind]
}

func TestP3_1SpareFields(t *testing.T) {
	for i := range each().Elems {
		for _, field := range []string{"C", "D", "R", "M", "v"} {
			n := each()
			e := &n.Elems[i]
			use := uses(e.Kind)
			switch field {
			case "C":
				e.C = 2
			case "D":
				e.D = -1
			case "R":
				e.Ref = 8
			case "M":
				e.Model = 5
			case "v":
				e.Val = "x"
			}
			if strings.Contains(use, field) || field == "R" && strings.Contains(use, "S") || field == "v" && strings.Contains(use, "+") {
				continue
			}
			// what comes later is wrong, too
			e.A = 9
			found(t, "spare "+field, n, 2, i, api.ErrArg)
		}
	}
	for _, kind := range []int{0, -1, 14, math.MaxInt, math.MinInt} {
		found(t, "no kind", api.Net{Elems: []api.Elem{{Kind: kind, A: 7}}}, 2, 0, api.ErrArg)
	}
}

func TestP3_1Nodes(t *testing.T) {
	for i := range each().Elems {
		for _, node := range []int{-1, 4, math.MaxInt, math.MinInt} {
			for at := range 4 {
				n := each()
				e := &n.Elems[i]
				if at >= 2 && !strings.Contains(uses(e.Kind), "CD"[at-2:at-1]) {
					continue
				}
				*[]*int{&e.A, &e.B, &e.C, &e.D}[at] = node
				if e.Val != "" {
					e.Val = digits(1001)
				}
				found(t, "a node", n, 2, i, api.ErrRange)
			}
		}
	}
}

func TestP3_1RefsAndModels(t *testing.T) {
	for i, e := range each().Elems {
		use := uses(e.Kind)
		for number := -1; number <= 13; number++ {
			n := each()
			right := true
			switch {
			case strings.Contains(use, "R"):
				n.Elems[i].Ref = number
				right = slices.Contains(carriers(n), number)
			case strings.Contains(use, "S"):
				n.Elems[i].Ref = number
				right = number == 0 || number == 1
			case strings.Contains(use, "M"):
				n.Elems[i].Model = number
				right = number == 0 && e.Kind != api.ElM || number == 1 && e.Kind == api.ElM
			}
			if right {
				found(t, "a right number", n, 0, 0, api.OK)
				continue
			}
			if e.Val != "" {
				n.Elems[i].Val = "x"
			}
			found(t, "a wrong number", n, 2, i, api.ErrRange)
		}
	}
	// The first element with an error is not the one whose kind is none, but the one that refers to it.
	n := api.Net{Elems: []api.Elem{{Kind: api.ElH, Ref: 1, Val: "1"}, {Kind: -5}}}
	found(t, "refers to none", n, 2, 0, api.ErrRange)
	n.Elems[1].Kind = math.MaxInt
	found(t, "refers to none", n, 2, 0, api.ErrRange)
	n.Elems[1] = api.Elem{Kind: api.ElV, Val: "x"}
	found(t, "refers to a wrong one", n, 2, 1, api.ErrForm)
}

func TestP3_1Vals(t *testing.T) {
	for i, e := range each().Elems {
		if e.Val == "" {
			continue
		}
		isAbove := strings.Contains(uses(e.Kind), "+")
		for _, c := range []struct {
			v        api.Val
			e, above api.Errno
		}{
			{"", api.ErrForm, api.ErrForm}, {"1k", api.ErrForm, api.ErrForm}, {"2/4", api.ErrForm, api.ErrForm},
			{"-" + digits(1001), api.ErrLong, api.ErrLong}, {digits(1000), api.OK, api.OK},
			{"0", api.OK, api.ErrRange}, {"-1/3", api.OK, api.ErrRange}, {"1/3", api.OK, api.OK},
		} {
			n := each()
			n.Elems[i].Val = c.v
			want := c.e
			if isAbove {
				want = c.above
			}
			part, at := 0, 0
			if want != api.OK {
				part, at = 2, i
			}
			found(t, "Val "+string(c.v[:min(9, len(c.v))]), n, part, at, want)
		}
	}
}
