package points_test

import (
	"fmt"
	"math/big"
	"slices"
	"testing"

	"pentode/api"
	"pentode/points"
	"pentode/value"
)

// This file has the chapter's definitions written again, with the library's fractions.

// frac is the fraction of a text, which has to be valid.
func frac(v api.Val) *big.Rat {
	x, ok := new(big.Rat).SetString(string(v))
	if !ok {
		panic("no number: " + string(v))
	}
	return x
}

func fracs(list []value.Num) []*big.Rat {
	var fs []*big.Rat
	for _, x := range list {
		fs = append(fs, frac(value.Text(x)))
	}
	return fs
}

func back(x *big.Rat) value.Num {
	n, e := value.Parse(api.Val(x.RatString()))
	if e != api.OK {
		panic("too long")
	}
	return n
}

func plus(x, y *big.Rat) *big.Rat  { return new(big.Rat).Add(x, y) }
func minus(x, y *big.Rat) *big.Rat { return new(big.Rat).Sub(x, y) }
func times(x, y *big.Rat) *big.Rat { return new(big.Rat).Mul(x, y) }
func lesser(x, y *big.Rat) *big.Rat {
	if x.Cmp(y) < 0 {
		return x
	}
	return y
}
func greater(x, y *big.Rat) *big.Rat {
	if x.Cmp(y) > 0 {
		return x
	}
	return y
}

// shifted is x times 2^n.
func shifted(x *big.Rat, n int) *big.Rat {
	power := new(big.Rat).SetInt(new(big.Int).Lsh(big.NewInt(1), uint(max(n, -n))))
	if n < 0 {
		power.Inv(power)
	}
	return times(x, power)
}

// down is the greatest number with so many bits that is not above x.
func down(x *big.Rat, bits int) *big.Rat {
	if x.Sign() == 0 {
		return new(big.Rat)
	}
	size := new(big.Rat).Abs(x)
	shift := size.Num().BitLen() - size.Denom().BitLen() - bits
	if shifted(size, -shift).Cmp(shifted(big.NewRat(1, 1), bits)) >= 0 {
		shift++
	}
	part := shifted(x, -shift)
	return shifted(new(big.Rat).SetInt(new(big.Int).Div(part.Num(), part.Denom())), shift)
}

func up(x *big.Rat, bits int) *big.Rat {
	return new(big.Rat).Neg(down(new(big.Rat).Neg(x), bits))
}

// pair is a span.
type pair struct{ lo, hi *big.Rat }

func alone(x *big.Rat) pair { return pair{x, x} }

// hull is the least span of some numbers.
func hull(list ...*big.Rat) pair {
	p := alone(list[0])
	for _, x := range list {
		p = pair{lesser(p.lo, x), greater(p.hi, x)}
	}
	return p
}

func pairsOf(box []value.Span) []pair {
	var list []pair
	for _, s := range box {
		list = append(list, hull(fracs([]value.Num{s.Lo, s.Hi})...))
	}
	return list
}

func pairsOfRanges(box []api.Range) []pair {
	list := []pair{}
	for _, r := range box {
		list = append(list, pair{frac(r.Lo), frac(r.Hi)})
	}
	return list
}

func (p pair) plus(q pair) pair  { return pair{plus(p.lo, q.lo), plus(p.hi, q.hi)} }
func (p pair) minus(q pair) pair { return pair{minus(p.lo, q.hi), minus(p.hi, q.lo)} }
func (p pair) times(q pair) pair {
	return hull(times(p.lo, q.lo), times(p.lo, q.hi), times(p.hi, q.lo), times(p.hi, q.hi))
}
func (p pair) scaled(k *big.Rat) pair { return p.times(alone(k)) }
func (p pair) has(x *big.Rat) bool    { return p.lo.Cmp(x) <= 0 && x.Cmp(p.hi) <= 0 }
func (p pair) within(q pair) bool     { return q.has(p.lo) && q.has(p.hi) }
func (p pair) width() *big.Rat        { return minus(p.hi, p.lo) }
func (p pair) middle() *big.Rat       { return times(plus(p.lo, p.hi), big.NewRat(1, 2)) }
func (p pair) String() string         { return p.lo.RatString() + " " + p.hi.RatString() }
func (p pair) meet(q pair) (pair, bool) {
	m := pair{greater(p.lo, q.lo), lesser(p.hi, q.hi)}
	return m, m.lo.Cmp(m.hi) <= 0
}

// horner is Horner's rule over a span.
func horner(coefs []*big.Rat, u pair) pair {
	sum := alone(new(big.Rat))
	for _, c := range slices.Backward(coefs) {
		sum = sum.times(u).plus(alone(c))
	}
	return sum
}

// overPieces is the join over a span of what the pieces of a curve give, or their derivatives.
func overPieces(m api.Model, u pair, derive bool) pair {
	var ends []*big.Rat
	for k, piece := range m.Pieces {
		has := u
		if k > 0 {
			has.lo = greater(has.lo, frac(m.Breaks[k-1]))
		}
		if k < len(m.Breaks) {
			has.hi = lesser(has.hi, frac(m.Breaks[k]))
		}
		if has.lo.Cmp(has.hi) > 0 {
			continue
		}
		var coefs []*big.Rat
		for i, c := range piece {
			switch {
			case !derive:
				coefs = append(coefs, frac(c))
			case i > 0:
				coefs = append(coefs, times(frac(c), big.NewRat(int64(i), 1)))
			}
		}
		p := horner(coefs, has)
		ends = append(ends, p.lo, p.hi)
	}
	return hull(ends...)
}

// truth is a net by the definitions.
type truth struct {
	api.Net
	own []int // the numbers of elements that carry a current of their own
}

func truthOf(n api.Net) truth { return truth{n, carriers(n)} }

func (n truth) size() int { return n.Nodes + len(n.own) }

// volts is the voltage of a node, in numbers or spans for all unknowns.
func volts(x []pair, node int) pair {
	if node == 0 {
		return alone(new(big.Rat))
	}
	return x[node-1]
}

// flow is the number of the unknown that is the current of an element.
func (n truth) flow(elem int) int {
	return n.Nodes + slices.Index(n.own, elem)
}

// gates are the spans p and q of a transistor.
func (n truth) gates(e api.Elem, x []pair) (p, q pair) {
	vt := alone(frac(n.Models[e.Model].Vt))
	zero := new(big.Rat)
	cut := func(s pair) pair { return pair{greater(s.lo, zero), greater(s.hi, zero)} }
	return cut(volts(x, e.C).minus(volts(x, e.B)).minus(vt)), cut(volts(x, e.C).minus(volts(x, e.A)).minus(vt))
}

// current is the table's current from A to B.
func (n truth) current(i int, x []pair) pair {
	e := n.Elems[i]
	across := volts(x, e.A).minus(volts(x, e.B))
	switch e.Kind {
	case api.ElR:
		return across.scaled(new(big.Rat).Inv(frac(e.Val)))
	case api.ElS:
		if e.Ref == 1 {
			return across.scaled(new(big.Rat).Inv(frac(e.Val)))
		}
	case api.ElI:
		return alone(frac(e.Val))
	case api.ElG:
		return volts(x, e.C).minus(volts(x, e.D)).scaled(frac(e.Val))
	case api.ElF:
		return x[n.flow(e.Ref)].scaled(frac(e.Val))
	case api.ElD:
		return overPieces(n.Models[e.Model], across, false)
	case api.ElM:
		p, q := n.gates(e, x)
		// None of both has numbers below 0: so the squares of the ends are the ends of the squares.
		squares := pair{times(p.lo, p.lo), times(p.hi, p.hi)}.minus(pair{times(q.lo, q.lo), times(q.hi, q.hi)})
		return squares.scaled(times(frac(n.Models[e.Model].Kp), big.NewRat(1, 2)))
	case api.ElL, api.ElV, api.ElE, api.ElH:
		return x[n.flow(i)]
	}
	return alone(new(big.Rat))
}

// law is the table's equation of an element that carries a current of its own.
func (n truth) law(i int, x []pair) pair {
	e := n.Elems[i]
	across := volts(x, e.A).minus(volts(x, e.B))
	switch e.Kind {
	case api.ElV:
		return across.minus(alone(frac(e.Val)))
	case api.ElE:
		return across.minus(volts(x, e.C).minus(volts(x, e.D)).scaled(frac(e.Val)))
	case api.ElH:
		return across.minus(x[n.flow(e.Ref)].scaled(frac(e.Val)))
	}
	return across
}

// reach is that of the equations, one by one.
func (n truth) reach(x []pair) []pair {
	list := []pair{}
	for node := 1; node <= n.Nodes; node++ {
		sum := alone(new(big.Rat))
		for i, e := range n.Elems {
			if e.A == node {
				sum = sum.plus(n.current(i, x))
			}
			if e.B == node {
				sum = sum.minus(n.current(i, x))
			}
		}
		list = append(list, sum)
	}
	for _, i := range n.own {
		list = append(list, n.law(i, x))
	}
	return list
}

// residual is the reach over a point.
func (n truth) residual(x []*big.Rat) []*big.Rat {
	at := []pair{}
	for _, v := range x {
		at = append(at, alone(v))
	}
	list := []*big.Rat{}
	for _, p := range n.reach(at) {
		list = append(list, p.lo)
	}
	return list
}

// node is an end of an element, and what the slope by its voltage is.
type node struct {
	number int
	s      pair
}

// byNodes are the slopes of the current of an element by voltages of nodes.
func (n truth) byNodes(i int, x []pair) []node {
	e := n.Elems[i]
	neg := func(p pair) pair { return alone(new(big.Rat)).minus(p) }
	switch {
	case e.Kind == api.ElR || e.Kind == api.ElS && e.Ref == 1:
		g := alone(new(big.Rat).Inv(frac(e.Val)))
		return []node{{e.A, g}, {e.B, neg(g)}}
	case e.Kind == api.ElG:
		g := alone(frac(e.Val))
		return []node{{e.C, g}, {e.D, neg(g)}}
	case e.Kind == api.ElD:
		g := overPieces(n.Models[e.Model], volts(x, e.A).minus(volts(x, e.B)), true)
		return []node{{e.A, g}, {e.B, neg(g)}}
	case e.Kind == api.ElM:
		p, q := n.gates(e, x)
		kp := frac(n.Models[e.Model].Kp)
		return []node{{e.A, q.scaled(kp)}, {e.C, p.minus(q).scaled(kp)}, {e.B, neg(p.scaled(kp))}}
	}
	return nil
}

// slope is that of an equation by an unknown.
func (n truth) slope(row, column int, x []pair) pair {
	one := alone(big.NewRat(1, 1))
	if row >= n.Nodes {
		return n.lawSlope(n.own[row-n.Nodes], column)
	}
	sum := alone(new(big.Rat))
	for i, e := range n.Elems {
		var by []pair
		for _, s := range n.byNodes(i, x) {
			if s.number == column+1 && column < n.Nodes {
				by = append(by, s.s)
			}
		}
		if column >= n.Nodes && n.own[column-n.Nodes] == i {
			by = append(by, one)
		}
		if column >= n.Nodes && e.Kind == api.ElF && e.Ref == n.own[column-n.Nodes] {
			by = append(by, alone(frac(e.Val)))
		}
		for _, s := range by {
			if e.A == row+1 {
				sum = sum.plus(s)
			}
			if e.B == row+1 {
				sum = sum.minus(s)
			}
		}
	}
	return sum
}

// lawSlope is that of the equation of an element that carries a current of its own.
func (n truth) lawSlope(i, column int) pair {
	e := n.Elems[i]
	sum := new(big.Rat)
	if column >= n.Nodes {
		if e.Kind == api.ElH && e.Ref == n.own[column-n.Nodes] {
			sum.Sub(sum, frac(e.Val))
		}
		return alone(sum)
	}
	add := func(node int, x *big.Rat) {
		if node == column+1 {
			sum.Add(sum, x)
		}
	}
	add(e.A, big.NewRat(1, 1))
	add(e.B, big.NewRat(-1, 1))
	if e.Kind == api.ElE {
		add(e.C, new(big.Rat).Neg(frac(e.Val)))
		add(e.D, frac(e.Val))
	}
	return alone(sum)
}

func (n truth) slopes(x []pair) [][]pair {
	var m [][]pair
	for row := range n.size() {
		line := []pair{}
		for column := range n.size() {
			line = append(line, n.slope(row, column, x))
		}
		m = append(m, line)
	}
	return m
}

// image is that of a box.
func (n truth) image(x []pair, mid []*big.Rat, inv [][]*big.Rat) []pair {
	f, s := n.residual(mid), n.slopes(x)
	list := []pair{}
	for i := range x {
		centre := mid[i]
		for k := range x {
			centre = minus(centre, times(inv[i][k], f[k]))
		}
		sum := alone(centre)
		for k := range x {
			rest := alone(new(big.Rat))
			for j := range x {
				rest = rest.plus(s[j][k].scaled(inv[i][j]))
			}
			d := new(big.Rat)
			if i == k {
				d = big.NewRat(1, 1)
			}
			sum = sum.plus(alone(d).minus(rest).times(x[k].minus(alone(mid[k]))))
		}
		list = append(list, sum)
	}
	return list
}

// gauss solves m x = right for some columns on the right, or returns nil.
func gauss(m, right [][]*big.Rat) [][]*big.Rat {
	var a [][]*big.Rat
	for i := range m {
		a = append(a, slices.Concat(m[i], right[i]))
	}
	for k := range a {
		found := slices.IndexFunc(a[k:], func(row []*big.Rat) bool { return row[k].Sign() != 0 })
		if found < 0 {
			return nil
		}
		a[k], a[k+found] = a[k+found], a[k]
		by := new(big.Rat).Inv(a[k][k])
		for j := range a[k] {
			a[k][j] = times(a[k][j], by)
		}
		for i := range a {
			by := a[i][k]
			for j := range a[i] {
				if i != k {
					a[i][j] = minus(a[i][j], times(by, a[k][j]))
				}
			}
		}
	}
	result := [][]*big.Rat{}
	for _, row := range a {
		result = append(result, row[len(a):])
	}
	return result
}

func unit(n int) [][]*big.Rat {
	var m [][]*big.Rat
	for i := range n {
		m = append(m, nil)
		for k := range n {
			m[i] = append(m[i], big.NewRat(int64(1-min(max(i-k, k-i), 1)), 1))
		}
	}
	return m
}

// seen is the point, the matrix and the image of the second and the third step of the derivation; nothing, if there is no
// inverse.
func (n truth) seen(x []pair, bits int) (mid []*big.Rat, inv [][]*big.Rat, image []pair) {
	for _, s := range x {
		m := down(s.middle(), bits)
		if !s.has(m) {
			m = s.middle()
		}
		mid = append(mid, m)
	}
	var middles [][]*big.Rat
	for _, row := range n.slopes(x) {
		var line []*big.Rat
		for _, s := range row {
			line = append(line, s.middle())
		}
		middles = append(middles, line)
	}
	inv = gauss(middles, unit(len(x)))
	if inv == nil {
		return nil, nil, nil
	}
	for _, row := range inv {
		for k := range row {
			row[k] = down(row[k], bits)
		}
	}
	return mid, inv, n.image(x, mid, inv)
}

// shrunk is the box B of the fourth step, or nothing, if a span of the image has nothing in common with that of the box.
func shrunk(x, image []pair, bits int) []pair {
	b := []pair{}
	for i, s := range x {
		m, ok := image[i].meet(s)
		if !ok {
			return nil
		}
		m, _ = pair{down(m.lo, bits), up(m.hi, bits)}.meet(s)
		b = append(b, m)
	}
	return b
}

// derivation is a proof that is derived.
type derivation struct {
	truth
	plan  api.PtPlan
	whole []pair
	items []api.PtItem
}

func (d *derivation) tree(x []pair) api.Errno {
	if len(d.items) == d.plan.Items {
		return points.ErrMore
	}
	for i, s := range d.reach(x) {
		if !s.has(new(big.Rat)) {
			d.items = append(d.items, api.PtItem{Kind: api.PtEmpty, Eq: i})
			return api.OK
		}
	}
	mid, inv, image := d.seen(x, d.plan.Bits)
	if inv != nil {
		b := shrunk(x, image, d.plan.Bits)
		inside := true
		for i, s := range x {
			inside = inside && image[i].lo.Cmp(s.lo) > 0 && image[i].hi.Cmp(s.hi) < 0
		}
		switch {
		case b == nil:
			return d.add(api.PtNone, mid, inv, nil)
		case inside:
			return d.add(api.PtOne, mid, inv, nil)
		case narrower(x, b):
			if e := d.add(api.PtShrink, mid, inv, b); e != api.OK {
				return e
			}
			return d.tree(b)
		}
	}
	return d.split(x)
}

// narrower is the condition of the fourth step.
func narrower(x, b []pair) bool {
	some := false
	for i, s := range x {
		if s.width().Sign() > 0 {
			some = true
			if b[i].width().Cmp(times(big.NewRat(3, 4), s.width())) > 0 {
				return false
			}
		}
	}
	return some
}

func text(x *big.Rat, e *api.Errno) api.Val {
	v := api.Val(x.RatString())
	if value.Check(v) != api.OK {
		*e = api.ErrLong
	}
	return v
}

func (d *derivation) add(kind int, mid []*big.Rat, inv [][]*big.Rat, box []pair) api.Errno {
	it, e := api.PtItem{Kind: kind}, api.OK
	for i, x := range mid {
		it.Mid = append(it.Mid, text(x, &e))
		var row []api.Val
		for _, y := range inv[i] {
			row = append(row, text(y, &e))
		}
		it.Inv = append(it.Inv, row)
	}
	for _, s := range box {
		it.Box = append(it.Box, api.Range{Lo: text(s.lo, &e), Hi: text(s.hi, &e)})
	}
	d.items = append(d.items, it)
	return e
}

func (d *derivation) split(x []pair) api.Errno {
	at, most := -1, new(big.Rat)
	for i, s := range x {
		if s.width().Sign() == 0 {
			continue
		}
		if part := new(big.Rat).Quo(s.width(), d.whole[i].width()); part.Cmp(most) > 0 {
			at, most = i, part
		}
	}
	if at < 0 {
		return points.ErrEdge
	}
	exact := plus(x[at].lo, times(big.NewRat(31, 64), x[at].width()))
	cut := down(exact, d.plan.Bits)
	if cut.Cmp(x[at].lo) <= 0 {
		cut = exact
	}
	e := api.OK
	d.items = append(d.items, api.PtItem{Kind: api.PtSplit, Var: at, At: text(cut, &e)})
	for half := range 2 {
		if e == api.OK {
			part := slices.Clone(x)
			part[at] = []pair{{x[at].lo, cut}, {cut, x[at].hi}}[half]
			e = d.tree(part)
		}
	}
	return e
}

// derive is Derive for arguments without errors.
func derive(n api.Net, box []api.Range, plan api.PtPlan) (api.PtProof, api.Errno) {
	d := derivation{truth: truthOf(n), plan: plan, whole: pairsOfRanges(box)}
	if e := d.tree(d.whole); e != api.OK {
		return api.PtProof{}, e
	}
	return api.PtProof{Items: d.items}, api.OK
}

// narrow is Narrow for arguments without errors.
func narrow(n api.Net, box []api.Range, bits, rounds int) ([]api.Range, api.Errno) {
	x := pairsOfRanges(box)
	for range rounds {
		_, inv, image := truthOf(n).seen(x, bits)
		if inv == nil {
			break
		}
		b := shrunk(x, image, bits)
		if b == nil {
			return nil, points.ErrFault
		}
		if fmt.Sprint(b) == fmt.Sprint(x) {
			break
		}
		x = b
	}
	list, e := []api.Range{}, api.OK
	for _, s := range x {
		list = append(list, api.Range{Lo: text(s.lo, &e), Hi: text(s.hi, &e)})
	}
	if e != api.OK {
		return nil, e
	}
	return list, api.OK
}

// The oracle itself holds against the rounding of package value.
func TestOracleRounds(t *testing.T) {
	g := newNumbers()
	for range 300 {
		x := value.Mul(g.num(), g.num())
		bits := 1 + g.below(9)
		f := frac(value.Text(x))
		if value.Cmp(back(down(f, bits)), value.Down(x, bits)) != 0 || value.Cmp(back(up(f, bits)), value.Up(x, bits)) != 0 {
			t.Fatalf("%s with %d bits: %s, %s", f, bits, down(f, bits), up(f, bits))
		}
	}
}
