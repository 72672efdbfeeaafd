package points_test

import (
	"math/big"
	"slices"
	"testing"

	"pentode/api"
	"pentode/net"
	"pentode/points"
	"pentode/value"
)

// exact is Exact for a piecewise linear net with few enough choices.
func exact(n api.Net) ([][]*big.Rat, api.Errno) {
	var devices []int
	choices := 1
	for i, e := range n.Elems {
		if e.Kind == api.ElD {
			devices = append(devices, i)
			choices *= len(n.Models[e.Model].Pieces)
		}
	}
	found := [][]*big.Rat{}
	for choice := range choices {
		with := api.Net{Nodes: n.Nodes, Elems: slices.Clone(n.Elems), Models: slices.Clone(n.Models)}
		inside := []func(v *big.Rat) bool{}
		for _, i := range slices.Backward(devices) { // the last one changes first
			m := n.Models[n.Elems[i].Model]
			k := choice % len(m.Pieces)
			choice /= len(m.Pieces)
			with.Elems[i].Model = len(with.Models)
			with.Models = append(with.Models, api.Model{Kind: api.MdCurve, Pieces: m.Pieces[k : k+1]})
			inside = append(inside, func(v *big.Rat) bool {
				return (k == 0 || v.Cmp(frac(m.Breaks[k-1])) >= 0) && (k == len(m.Breaks) || v.Cmp(frac(m.Breaks[k])) <= 0)
			})
		}
		w := truthOf(with)
		zero := make([]*big.Rat, w.size())
		for i := range zero {
			zero[i] = new(big.Rat)
		}
		constant := w.residual(zero)
		m := make([][]*big.Rat, w.size())
		right := [][]*big.Rat{}
		for k := range zero {
			at := slices.Clone(zero)
			at[k] = big.NewRat(1, 1)
			for i, f := range w.residual(at) {
				m[i] = append(m[i], minus(f, constant[i]))
			}
			right = append(right, []*big.Rat{minus(zero[k], constant[k])})
		}
		x := gauss(m, right)
		if x == nil {
			return nil, api.ErrSingular
		}
		point, fits := []*big.Rat{}, true
		for _, row := range x {
			point = append(point, row[0])
		}
		volt := func(node int) *big.Rat { return append([]*big.Rat{new(big.Rat)}, point...)[node] }
		for j, i := range slices.Backward(devices) {
			fits = fits && inside[len(devices)-1-j](minus(volt(n.Elems[i].A), volt(n.Elems[i].B)))
		}
		if fits && !slices.ContainsFunc(found, func(y []*big.Rat) bool { return showFracs(y) == showFracs(point) }) {
			found = append(found, point)
		}
	}
	return found, api.OK
}

// P4.7 and P4.13.
func TestP4_7Definitions(t *testing.T) {
	g := newNumbers()
	errors, several := map[api.Errno]int{}, 0
	for range 500 {
		n := g.small(g.below(4), g.below(8), 2, api.ElR, api.ElV, api.ElI, api.ElE, api.ElG, api.ElF, api.ElH, api.ElD, api.ElD, api.ElC, api.ElL, api.ElQ, api.ElS)
		if choices(n) > 80 {
			continue
		}
		for node := 1; node <= n.Nodes; node++ {
			n.Elems = append(n.Elems, api.Elem{Kind: api.ElR, A: node, Val: g.above()})
		}
		want, wantE := exact(n)
		l, e := points.Exact(n)
		if showRows(l) != showFracRows(want) || len(l) != len(want) || e != wantE {
			t.Fatalf("%v: Exact = %s, %d, not %s, %d", n, showRows(l), e, showFracRows(want), wantE)
		}
		errors[e]++
		for i, x := range l {
			f, _ := points.Residual(n, x)
			if slices.ContainsFunc(f, func(v value.Num) bool { return value.Sign(v) != 0 }) {
				t.Fatalf("%v: the residual of %s is %s", n, show(x), show(f))
			}
			for _, y := range l[:i] {
				if show(x) == show(y) {
					t.Fatalf("%v: %s is there twice", n, show(x))
				}
			}
		}
		if len(l) > 1 {
			several++
		}
	}
	if errors[api.OK] < 100 || errors[api.ErrSingular] < 30 || several < 10 {
		t.Errorf("errors %v, %d with several points", errors, several)
	}
}

func choices(n api.Net) int {
	product := 1
	for _, e := range n.Elems {
		if e.Kind == api.ElD {
			product *= len(n.Models[e.Model].Pieces)
		}
	}
	return product
}

func TestP4_7Exact(t *testing.T) {
	for _, c := range []struct {
		lines []string
		want  string
		e     api.Errno
	}{
		{[]string{"r r1 1 0 2", "i i1 0 1 3"}, "6", api.OK},
		{[]string{"v v1 1 0 3", "l l1 1 2 1", "r r1 2 0 2"}, "3 3 -3/2 3/2", api.OK},
		{[]string{"c c1 1 0 1"}, "", api.ErrSingular},
		{[]string{"v v1 1 0 3", "v v2 1 0 3"}, "", api.ErrSingular},
		{[]string{"model k curve 0 0 1", "r r1 1 0 1", "q q1 1 0 k"}, "0", api.OK},                          // not the curve of an ElD
		{[]string{"model k curve 0 0 1", "r r1 1 0 1"}, "0", api.OK},                                        // a model that nothing has
		{[]string{"model k curve 0 1 0", "r r1 1 0 1", "d d1 1 0 k"}, "", api.ErrForm},                      // three coefficients
		{[]string{"model k curve 0 1 | 0 | 0 2 0", "r r1 1 0 1", "d d1 1 0 k"}, "", api.ErrForm},            // of the second piece
		{[]string{"model k square 1 1", "r r1 1 0 1", "m m1 1 0 0 k"}, "", api.ErrForm},                     // a transistor
		{[]string{"model k square 1 1", "r r1 1 0 1"}, "0", api.OK},                                         // none
		{[]string{"model k curve 1", "r r1 1 0 1", "d d1 1 0 k"}, "-1", api.OK},                             // one coefficient
		{[]string{"model k curve 0 1 | 0 | 0 -1", "r r1 1 0 1", "d d1 1 0 k"}, "", api.ErrSingular},         // the second piece
		{[]string{"model k curve 0 -1 | 0 | 0 1", "r r1 1 0 1", "d d1 1 0 k"}, "", api.ErrSingular},         // the first one
		{[]string{"model k curve 0 1 | 0 | 0 2", "r r1 1 0 1", "d d1 1 0 k"}, "0", api.OK},                  // the point at the break once
		{[]string{"model k curve 5 1 | -5 | 0", "r r1 1 0 1", "i i1 0 1 -15", "d d1 1 0 k"}, "-10", api.OK}, // a piece without an end
		{[]string{"model k curve 0 -2 | 1 | -2", "r r1 1 0 1", "i i1 0 1 0", "d d1 1 0 k"}, "0 / 2", api.OK},
	} {
		n := read(t, c.lines...)
		l, e := points.Exact(n)
		if showRows(l) != c.want || e != c.e || e != api.OK && l != nil {
			t.Errorf("Exact of %q = %s, %d", c.lines, showRows(l), e)
		}
	}
	if l, e := points.Exact(api.Net{}); len(l) != 1 || len(l[0]) != 0 || e != api.OK {
		t.Errorf("Exact of no unknowns = %v, %d", l, e)
	}
}

// Two devices in series: the piece of the last one changes first.
func TestP4_7Order(t *testing.T) {
	n := read(t, rising, "i i1 0 1 5/4", "r r1 1 0 2", "d d1 1 0 k", "i i2 0 2 5/4", "r r2 2 0 2", "d d2 2 0 k")
	want := "5/6 5/6 / 5/6 3/2 / 5/6 13/6 / 3/2 5/6 / 3/2 3/2 / 3/2 13/6 / 13/6 5/6 / 13/6 3/2 / 13/6 13/6"
	if l, e := points.Exact(n); showRows(l) != want || e != api.OK {
		t.Errorf("Exact = %s, %d", showRows(l), e)
	}
}

func TestP4_7Choices(t *testing.T) {
	// pieces makes a model of so many linear pieces, all of them 0 1.
	pieces := func(k int) api.Model {
		m := api.Model{Kind: api.MdCurve, Pieces: [][]api.Val{{"0", "1"}}}
		for i := range k - 1 {
			m.Breaks = append(m.Breaks, value.Text(value.Int(int64(i))))
			m.Pieces = append(m.Pieces, []api.Val{"0", "1"})
		}
		return m
	}
	with := func(counts ...int) api.Net {
		n := api.Net{Nodes: 1, Elems: []api.Elem{{Kind: api.ElI, B: 1, Val: "3"}}}
		for k := 1; k <= 6; k++ {
			n.Models = append(n.Models, pieces(k))
		}
		for _, k := range counts {
			n.Elems = append(n.Elems, api.Elem{Kind: api.ElD, A: 1, Model: k - 1})
		}
		return n
	}
	long := slices.Repeat([]int{6}, 59)
	for _, c := range []struct {
		n    api.Net
		want api.Errno
	}{
		{with(2, 2, 2, 2, 2, 2, 2, 2, 2), api.OK}, // 512
		{with(4, 4, 4, 4, 2), api.OK},
		{with(3, 3, 3, 3, 3, 2), api.OK}, // 486
		{with(3, 3, 3, 3, 3, 3), api.ErrLong},
		{with(2, 2, 2, 2, 2, 2, 2, 2, 2, 2), api.ErrLong},
		{with(4, 4, 4, 4, 2, 2), api.ErrLong},
		{with(5, 5, 5, 5), api.ErrLong},
		{with(1, 1, 1, 1, 1, 1, 1, 1, 1, 1, 1, 1), api.OK},
		{with(long...), api.ErrLong},
	} {
		l, e := points.Exact(c.n)
		if e != c.want || e == api.OK && len(l) != 1 || e != api.OK && l != nil {
			t.Errorf("Exact of %d choices = %s, %d", choices(c.n), showRows(l), e)
		}
	}
	// The form comes before the number of choices, and this before what is singular.
	n := with(long...)
	n.Models[0].Pieces[0] = []api.Val{"0", "1", "0"}
	n.Elems[0] = api.Elem{Kind: api.ElD, A: 1, Model: 0}
	if _, e := points.Exact(n); e != api.ErrForm {
		t.Errorf("Exact = %d", e)
	}
	n = with(long...)
	n.Nodes = 2
	if _, e := points.Exact(n); e != api.ErrLong {
		t.Errorf("Exact = %d", e)
	}
	n = with(2, 2)
	n.Nodes = 2
	if _, e := points.Exact(n); e != api.ErrSingular {
		t.Errorf("Exact = %d", e)
	}
}

func TestP4_7Errors(t *testing.T) {
	bad, _ := net.With(tunnel(t), 1, "1")
	bad.Elems[1].Val = "0"
	for _, c := range []struct {
		n    api.Net
		want api.Errno
	}{{bad, api.ErrRange}, {api.Net{Nodes: 13}, api.ErrLong}, {api.Net{Nodes: 21}, api.ErrRange}} {
		if l, e := points.Exact(c.n); l != nil || e != c.want {
			t.Errorf("Exact = %s, %d", showRows(l), e)
		}
		if p, e := points.Char(c.n); p != nil || e != c.want {
			t.Errorf("Char = %s, %d", show(p), e)
		}
	}
}
