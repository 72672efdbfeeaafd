package points_test

import (
	"math/big"
	"testing"

	"pentode/api"
	"pentode/net"
	"pentode/points"
	"pentode/value"
)

// matrix is one of small numbers, many of which are 0.
func (g *numbers) matrix(n int) [][]value.Num {
	var m [][]value.Num
	for range n {
		row := make([]value.Num, n)
		for k := range row {
			if g.below(2) == 0 {
				row[k] = g.num()
			}
		}
		m = append(m, row)
	}
	return m
}

func fracRows(m [][]value.Num) [][]*big.Rat {
	var list [][]*big.Rat
	for _, row := range m {
		list = append(list, fracs(row))
	}
	return list
}

func showFracRows(m [][]*big.Rat) string {
	var list [][]value.Num
	for _, row := range m {
		var nums []value.Num
		for _, x := range row {
			nums = append(nums, back(x))
		}
		list = append(list, nums)
	}
	return showRows(list)
}

func TestP4_2Definitions(t *testing.T) {
	g := newNumbers()
	singular := 0
	for i := range 400 {
		size := i % 13
		m, b := g.matrix(size), g.nums(size)
		var right [][]*big.Rat
		for _, x := range fracs(b) {
			right = append(right, []*big.Rat{x})
		}
		want, wantX := gauss(fracRows(m), unit(size)), gauss(fracRows(m), right)
		inverse, e := points.Inverse(m)
		x, f := points.Solve(m, b)
		if want == nil {
			singular++
			if inverse != nil || e != api.ErrSingular || x != nil || f != api.ErrSingular {
				t.Fatalf("%s: %s, %d, %s, %d", showRows(m), showRows(inverse), e, show(x), f)
			}
			continue
		}
		if showRows(inverse) != showFracRows(want) || len(inverse) != size || e != api.OK {
			t.Fatalf("Inverse of %s = %s, %d", showRows(m), showRows(inverse), e)
		}
		column := []value.Num{}
		for _, row := range wantX {
			column = append(column, back(row[0]))
		}
		if show(x) != show(column) || len(x) != size || f != api.OK {
			t.Fatalf("Solve of %s with %s = %s, %d", showRows(m), show(b), show(x), f)
		}
	}
	if singular < 20 || singular > 200 {
		t.Errorf("%d matrices are singular", singular)
	}
}

func TestP4_2Matrices(t *testing.T) {
	for _, c := range []struct{ m, b, x, inverse string }{
		{"4", "6", "3/2", "1/4"},
		{"0 1 / 2 0", "3 5", "5/2 3", "0 1/2 / 1 0"},
		{"0 0 1 / 0 1 0 / 1 0 0", "1 2 3", "3 2 1", "0 0 1 / 0 1 0 / 1 0 0"},
		{"0 2 0 / 0 0 3 / 5 0 0", "1 1 1", "1/5 1/2 1/3", "0 0 1/5 / 1/2 0 0 / 0 1/3 0"},
		{"1/3 1/2 / 1/4 1/5", "1 0", "-24/7 30/7", "-24/7 60/7 / 30/7 -40/7"},
		{"1 1 / 1 2", "0 0", "0 0", "2 -1 / -1 1"},
	} {
		if x, e := points.Solve(rows(t, c.m), nums(t, c.b)); show(x) != c.x || e != api.OK {
			t.Errorf("Solve of %s with %s = %s, %d", c.m, c.b, show(x), e)
		}
		if m, e := points.Inverse(rows(t, c.m)); showRows(m) != c.inverse || e != api.OK {
			t.Errorf("Inverse of %s = %s, %d", c.m, showRows(m), e)
		}
	}
	for _, m := range []string{"0", "1 2 / 2 4", "1 1 / 0 0", "0 1 / 0 1", "1 2 3 / 4 5 6 / 7 8 9", "1/3 1/2 / 2/3 1"} {
		zero := make([]value.Num, len(rows(t, m)))
		if x, e := points.Solve(rows(t, m), zero); x != nil || e != api.ErrSingular {
			t.Errorf("Solve of %s = %s, %d", m, show(x), e)
		}
		if x, e := points.Inverse(rows(t, m)); x != nil || e != api.ErrSingular {
			t.Errorf("Inverse of %s = %s, %d", m, showRows(x), e)
		}
	}
}

func TestP4_2Errors(t *testing.T) {
	zeros := func(n int) []value.Num { return make([]value.Num, n) }
	square := func(n int) [][]value.Num {
		var m [][]value.Num
		for range n {
			m = append(m, zeros(n))
		}
		return m
	}
	for _, c := range []struct {
		m      [][]value.Num
		b      []value.Num
		e, inv api.Errno
	}{
		{square(13), zeros(13), api.ErrLong, api.ErrLong},
		{make([][]value.Num, 13), zeros(2), api.ErrLong, api.ErrLong},
		{square(12), zeros(12), api.ErrSingular, api.ErrSingular},
		{square(12), zeros(11), api.ErrArg, api.ErrSingular},
		{square(2), zeros(3), api.ErrArg, api.ErrSingular},
		{[][]value.Num{zeros(2), zeros(1)}, zeros(2), api.ErrArg, api.ErrArg},
		{[][]value.Num{zeros(2), zeros(3)}, zeros(2), api.ErrArg, api.ErrArg},
		{[][]value.Num{zeros(2)}, zeros(1), api.ErrArg, api.ErrArg},
		{[][]value.Num{nil}, zeros(1), api.ErrArg, api.ErrArg},
		{nil, zeros(1), api.ErrArg, api.OK},
		{nil, nil, api.OK, api.OK},
		{[][]value.Num{}, []value.Num{}, api.OK, api.OK},
	} {
		if x, e := points.Solve(c.m, c.b); len(x) != 0 || e != c.e {
			t.Errorf("Solve of %v with %v = %s, %d", c.m, c.b, show(x), e)
		}
		if x, e := points.Inverse(c.m); len(x) != 0 || e != c.inv {
			t.Errorf("Inverse of %v = %s, %d", c.m, showRows(x), e)
		}
	}
}

// Numbers whose denominators are too long for a Val are nothing special.
func TestP4_2LongNumbers(t *testing.T) {
	third, _ := value.Ratio(1, 3)
	tiny := num(t, "1/"+digits(1000))
	tiny = value.Mul(tiny, value.Mul(third, tiny))
	m := [][]value.Num{{tiny, value.Int(1)}, {value.Int(0), third}}
	b := []value.Num{value.Add(value.Mul(tiny, value.Int(7)), value.Int(5)), value.Mul(third, value.Int(5))}
	if x, e := points.Solve(m, b); show(x) != "7 5" || e != api.OK {
		t.Errorf("Solve = %s, %d", show(x), e)
	}
	inverse, e := points.Inverse(m)
	if e != api.OK {
		t.Fatal(e)
	}
	for i, row := range inverse {
		for k := range row {
			sum := value.Add(value.Mul(row[0], m[0][k]), value.Mul(row[1], m[1][k]))
			if (i == k) != (value.Cmp(sum, value.Int(1)) == 0) || (i != k) != (value.Sign(sum) == 0) {
				t.Errorf("the product has %.40s at %d, %d", value.Text(sum), i, k)
			}
		}
	}
}

func TestP4_3Definitions(t *testing.T) {
	g := newNumbers()
	for range 200 {
		n := g.small(g.below(5), g.below(14), 4, all...)
		size, _ := points.Size(n)
		box := g.spans(size)
		mid := []value.Num{}
		for _, s := range box {
			mid = append(mid, g.inside(s))
		}
		inv := g.matrix(size)
		want := truthOf(n).image(pairsOf(box), fracs(mid), fracRows(inv))
		if l, e := points.Krawczyk(n, box, mid, inv); !same(l, want) || len(l) != size || e != api.OK {
			t.Fatalf("%v over %s: Krawczyk = %s, %d, not %v", n, showSpans(box), showSpans(l), e, want)
		}
	}
}

func TestP4_3Image(t *testing.T) {
	// f is v - 1, with the slope 1: the image is m - y (m - 1) + (1 - y) (X - m).
	line := read(t, "i i1 0 1 1", "r r1 1 0 1")
	for _, c := range []struct{ box, mid, inv, want string }{
		{"0 3", "2", "1/2", "1/2 2"}, {"3 0", "2", "1/2", "1/2 2"}, {"0 3", "0", "1", "1 1"}, {"0 3", "3", "0", "0 3"}, {"0 3", "3/2", "2", "-1 2"}, {"2 2", "2", "1", "1 1"},
	} {
		if l, e := points.Krawczyk(line, spans(t, c.box), nums(t, c.mid), rows(t, c.inv)); showSpans(l) != c.want || e != api.OK {
			t.Errorf("Krawczyk over %s = %s, %d", c.box, showSpans(l), e)
		}
	}
	// f is v v - 2, with the slopes 2 X.
	n := device(t, "-2 0 1")
	if l, e := points.Krawczyk(n, spans(t, "1 2"), nums(t, "3/2"), rows(t, "1/3")); showSpans(l) != "5/4 19/12" || e != api.OK {
		t.Errorf("Krawczyk = %s, %d", showSpans(l), e)
	}
}

func TestP4_3Errors(t *testing.T) {
	line := read(t, "i i1 0 1 1", "r r1 1 0 1")
	bad, _ := net.With(line, 0, "1")
	bad.Elems[1].Val = "-1"
	for _, c := range []struct {
		n        api.Net
		box, mid string
		inv      [][]value.Num
		want     api.Errno
	}{
		{line, "0 3", "1", rows(t, "1"), api.OK},
		{line, "3 0", "3", rows(t, "1"), api.OK},
		{line, "0 3", "4", rows(t, "1"), api.ErrRange},
		{line, "3 0", "-1", rows(t, "1"), api.ErrRange},
		{line, "0 3", "4", rows(t, "1 1"), api.ErrArg},
		{line, "0 3", "4", rows(t, "1 / 1"), api.ErrArg},
		{line, "0 3", "4", nil, api.ErrArg},
		{line, "0 3", "4", [][]value.Num{nil}, api.ErrArg},
		{line, "0 3 0 3", "4", rows(t, "1"), api.ErrArg},
		{line, "0 3", "4 4", rows(t, "1"), api.ErrArg},
		{line, "", "4", rows(t, "1"), api.ErrArg},
		{line, "0 3", "", rows(t, "1"), api.ErrArg},
		{bad, "0 3", "", nil, api.ErrRange},
		{api.Net{Nodes: 13}, "", "", nil, api.ErrLong},
		{api.Net{}, "", "", nil, api.OK},
		{api.Net{}, "", "", rows(t, "1"), api.ErrArg},
	} {
		l, e := points.Krawczyk(c.n, spans(t, c.box), nums(t, c.mid), c.inv)
		if e != c.want || e != api.OK && l != nil {
			t.Errorf("Krawczyk over %q by %q = %s, %d", c.box, c.mid, showSpans(l), e)
		}
	}
}
