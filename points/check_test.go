package points_test

import (
	"fmt"
	"math"
	"math/big"
	"slices"
	"testing"

	"pentode/api"
	"pentode/net"
	"pentode/points"
	"pentode/value"
)

// judge goes through a proof by the definitions.
type judge struct {
	truth
	items []api.PtItem
	at    int
	ones  [][]pair
}

// accept is Check and Boxes for a box without errors.
func accept(n api.Net, box []api.Range, q api.PtProof) (ones [][]pair, item int, e api.Errno) {
	j := &judge{truth: truthOf(n), items: q.Items}
	e = j.tree(pairsOfRanges(box))
	if e == api.OK && j.at < len(j.items) {
		return nil, j.at, points.ErrTree
	}
	if e != api.OK {
		return nil, j.at, e
	}
	return j.ones, 0, api.OK
}

func (j *judge) tree(x []pair) api.Errno {
	if j.at == len(j.items) {
		return points.ErrTree
	}
	if j.at == api.MaxPtItems {
		return api.ErrLong
	}
	it := j.items[j.at]
	if !wellFormed(it, x) {
		return points.ErrItem
	}
	if !j.holds(it, x) {
		return points.ErrFault
	}
	j.at++
	switch it.Kind {
	case api.PtSplit:
		lower, upper := slices.Clone(x), slices.Clone(x)
		lower[it.Var].hi, upper[it.Var].lo = frac(it.At), frac(it.At)
		if e := j.tree(lower); e != api.OK {
			return e
		}
		return j.tree(upper)
	case api.PtOne:
		j.ones = append(j.ones, x)
	case api.PtShrink:
		return j.tree(pairsOfRanges(it.Box))
	}
	return api.OK
}

func valid(list ...api.Val) bool {
	return !slices.ContainsFunc(list, func(v api.Val) bool { return value.Check(v) != api.OK })
}

func wellFormed(it api.PtItem, x []pair) bool {
	bare := api.PtItem{Kind: it.Kind, Mid: []api.Val{}, Inv: [][]api.Val{}, Box: []api.Range{}}
	switch it.Kind {
	case api.PtSplit:
		bare.Var, bare.At = it.Var, it.At
	case api.PtEmpty:
		bare.Eq = it.Eq
	case api.PtNone, api.PtOne:
		bare.Mid, bare.Inv = it.Mid, it.Inv
	case api.PtShrink:
		bare.Mid, bare.Inv, bare.Box = it.Mid, it.Inv, it.Box
	default:
		return false
	}
	if fmt.Sprint(bare) != fmt.Sprint(it) {
		return false
	}
	switch it.Kind {
	case api.PtSplit:
		return it.Var >= 0 && it.Var < len(x) && valid(it.At) && frac(it.At).Cmp(x[it.Var].lo) > 0 && frac(it.At).Cmp(x[it.Var].hi) < 0
	case api.PtEmpty:
		return it.Eq >= 0 && it.Eq < len(x)
	case api.PtShrink:
		if len(it.Box) != len(x) {
			return false
		}
		for _, r := range it.Box {
			if !valid(r.Lo, r.Hi) || frac(r.Lo).Cmp(frac(r.Hi)) > 0 {
				return false
			}
		}
	}
	if len(it.Mid) != len(x) || len(it.Inv) != len(x) || !valid(it.Mid...) {
		return false
	}
	for i, row := range it.Inv {
		if len(row) != len(x) || !valid(row...) || !x[i].has(frac(it.Mid[i])) {
			return false
		}
	}
	return true
}

// holds reports whether an item proves what it has to.
func (j *judge) holds(it api.PtItem, x []pair) bool {
	switch it.Kind {
	case api.PtSplit:
		return true
	case api.PtEmpty:
		return !j.reach(x)[it.Eq].has(new(big.Rat))
	}
	var mid []*big.Rat
	var inv [][]*big.Rat
	for i, v := range it.Mid {
		mid = append(mid, frac(v))
		inv = append(inv, nil)
		for _, w := range it.Inv[i] {
			inv[i] = append(inv[i], frac(w))
		}
	}
	image := j.image(x, mid, inv)
	apart, inside, kept := false, true, true
	for i, s := range x {
		m, ok := image[i].meet(s)
		apart = apart || !ok
		inside = inside && image[i].lo.Cmp(s.lo) > 0 && image[i].hi.Cmp(s.hi) < 0
		if it.Kind == api.PtShrink {
			b := pairsOfRanges(it.Box)[i]
			kept = kept && b.within(s) && (!ok || m.within(b))
		}
	}
	return it.Kind == api.PtNone && apart || it.Kind == api.PtOne && inside || it.Kind == api.PtShrink && kept
}

// agree holds Check and Boxes against the definitions.
func agree(t *testing.T, n api.Net, box []api.Range, q api.PtProof) (int, api.Errno) {
	t.Helper()
	want, wantItem, wantE := accept(n, box, q)
	ones, item, e := points.Check(n, box, q)
	if ones != len(want) || item != wantItem || e != wantE {
		t.Fatalf("%v over %s: Check of %.2000v = %d, %d, %d, not %d, %d, %d", n, showRanges(box), q, ones, item, e, len(want), wantItem, wantE)
	}
	boxes, e := points.Boxes(n, box, q)
	if e != wantE || len(boxes) != len(want) {
		t.Fatalf("Boxes = %v, %d", boxes, e)
	}
	for i, b := range boxes {
		if showRanges(b) != showPairs(want[i]) {
			t.Fatalf("the box %d is %s, not %v", i, showRanges(b), want[i])
		}
	}
	return ones, e
}

// copiedProof is a proof in memory of its own.
func copiedProof(q api.PtProof) api.PtProof {
	var items []api.PtItem
	for _, it := range q.Items {
		it.Mid = slices.Clone(it.Mid)
		it.Inv = slices.Clone(it.Inv)
		for i, row := range it.Inv {
			it.Inv[i] = slices.Clone(row)
		}
		it.Box = slices.Clone(it.Box)
		items = append(items, it)
	}
	return api.PtProof{Items: items}
}

// line is a net with the equation v - 1.
func line(t testing.TB) api.Net {
	return read(t, "i i1 0 1 1", "r r1 1 0 1")
}

// by is an item with a point and a matrix for one unknown.
func by(kind int, mid, inv api.Val, box ...string) api.PtItem {
	it := api.PtItem{Kind: kind, Mid: []api.Val{mid}, Inv: [][]api.Val{{inv}}}
	if len(box) > 0 {
		it.Box = ranges(box[0])
	}
	return it
}

func proofOf(items ...api.PtItem) api.PtProof {
	return api.PtProof{Items: items}
}

func TestP4_4WellFormed(t *testing.T) {
	split := api.PtItem{Kind: api.PtSplit, At: "2"}
	empty := api.PtItem{Kind: api.PtEmpty}
	one, none, shrink := by(api.PtOne, "3/2", "1"), by(api.PtNone, "5/2", "1"), by(api.PtShrink, "3/2", "1", "1/2 3/2")
	with := func(it api.PtItem, change func(it *api.PtItem)) api.PtItem {
		it = copiedProof(proofOf(it)).Items[0]
		change(&it)
		return it
	}
	changes := map[string]func(it *api.PtItem){
		"Var 1":       func(it *api.PtItem) { it.Var = 1 },
		"Var -1":      func(it *api.PtItem) { it.Var = -1 },
		"Var far":     func(it *api.PtItem) { it.Var = math.MaxInt },
		"Eq 1":        func(it *api.PtItem) { it.Eq = 1 },
		"Eq -1":       func(it *api.PtItem) { it.Eq = math.MinInt },
		"At other":    func(it *api.PtItem) { it.At = "7/2" },
		"At same":     func(it *api.PtItem) { it.At = "0" },
		"At invalid":  func(it *api.PtItem) { it.At = "4/2" },
		"Mid longer":  func(it *api.PtItem) { it.Mid = append(it.Mid, "1") },
		"Mid outside": func(it *api.PtItem) { it.Mid = []api.Val{"4"} },
		"Mid invalid": func(it *api.PtItem) { it.Mid = []api.Val{"+1"} },
		"Mid long":    func(it *api.PtItem) { it.Mid = []api.Val{"1/" + digits(1001)} },
		"Inv longer":  func(it *api.PtItem) { it.Inv = append(it.Inv, []api.Val{"1"}) },
		"Inv wider":   func(it *api.PtItem) { it.Inv = [][]api.Val{{"1", "1"}} },
		"Inv invalid": func(it *api.PtItem) { it.Inv = [][]api.Val{{""}} },
		"Inv none":    func(it *api.PtItem) { it.Inv = [][]api.Val{{}} },
		"Box longer":  func(it *api.PtItem) { it.Box = append(it.Box, api.Range{Lo: "1", Hi: "1"}) },
		"Box invalid": func(it *api.PtItem) { it.Box = ranges("0 x") },
		"Box first":   func(it *api.PtItem) { it.Box = ranges("x 1") },
		"Box turned":  func(it *api.PtItem) { it.Box = ranges("3/2 1/2") },
		"Box wider":   func(it *api.PtItem) { it.Box = append(it.Box, api.Range{}) },
		"Kind 0":      func(it *api.PtItem) { it.Kind = 0 },
		"Kind 6":      func(it *api.PtItem) { it.Kind = 6 },
		"Kind -1":     func(it *api.PtItem) { it.Kind = -1 },
	}
	n := line(t)
	for name, c := range map[string]struct {
		box  string
		it   api.PtItem
		more []api.PtItem
		ones int
	}{
		"split":  {"0 3", split, []api.PtItem{one, {Kind: api.PtEmpty}}, 1},
		"empty":  {"2 3", empty, nil, 0},
		"none":   {"2 3", none, nil, 0},
		"one":    {"0 3", one, nil, 1},
		"shrink": {"0 3", shrink, []api.PtItem{by(api.PtOne, "1", "1")}, 1},
	} {
		q := proofOf(append([]api.PtItem{c.it}, c.more...)...)
		if ones, item, e := points.Check(n, ranges(c.box), q); ones != c.ones || item != 0 || e != api.OK {
			t.Errorf("%s: Check = %d, %d, %d", name, ones, item, e)
		}
		agree(t, n, ranges(c.box), q)
		for change, do := range changes {
			q.Items[0] = with(c.it, do)
			if ones, item, e := points.Check(n, ranges(c.box), q); ones != 0 || item != 0 || e != points.ErrItem {
				t.Errorf("%s with %s: Check = %d, %d, %d", name, change, ones, item, e)
			}
			agree(t, n, ranges(c.box), q)
		}
	}
}

// Nothing and an empty list are the same.
func TestP4_4Empty(t *testing.T) {
	n := line(t)
	for _, it := range []api.PtItem{
		{Kind: api.PtEmpty, Mid: []api.Val{}, Inv: [][]api.Val{}, Box: []api.Range{}},
		{Kind: api.PtNone, Mid: []api.Val{"2"}, Inv: [][]api.Val{{"1"}}, Box: []api.Range{}},
	} {
		if ones, item, e := points.Check(n, ranges("2 3"), proofOf(it)); ones != 0 || item != 0 || e != api.OK {
			t.Errorf("Check = %d, %d, %d", ones, item, e)
		}
	}
	one := proofOf(api.PtItem{Kind: api.PtOne})
	if ones, item, e := points.Check(api.Net{}, nil, one); ones != 1 || item != 0 || e != api.OK {
		t.Errorf("Check of no unknowns = %d, %d, %d", ones, item, e)
	}
	if l, e := points.Boxes(api.Net{}, nil, one); len(l) != 1 || len(l[0]) != 0 || e != api.OK {
		t.Errorf("Boxes of no unknowns = %v, %d", l, e)
	}
}

func TestP4_4Faults(t *testing.T) {
	n := line(t)
	for _, c := range []struct {
		box  string
		it   api.PtItem
		want api.Errno
	}{
		{"1 3", api.PtItem{Kind: api.PtEmpty}, points.ErrFault},
		{"0 1", api.PtItem{Kind: api.PtEmpty}, points.ErrFault},
		{"9/8 3", api.PtItem{Kind: api.PtEmpty}, api.OK},
		{"0 7/8", api.PtItem{Kind: api.PtEmpty}, api.OK},
		// the image is 1, and touches the box, or not
		{"1 3", by(api.PtNone, "2", "1"), points.ErrFault},
		{"0 1", by(api.PtNone, "1/2", "1"), points.ErrFault},
		{"9/8 3", by(api.PtNone, "2", "1"), api.OK},
		{"0 7/8", by(api.PtNone, "1/2", "1"), api.OK},
		{"1 3", by(api.PtOne, "2", "1"), points.ErrFault},
		{"0 1", by(api.PtOne, "1/2", "1"), points.ErrFault},
		{"7/8 3", by(api.PtOne, "2", "1"), api.OK},
		{"0 9/8", by(api.PtOne, "1/2", "1"), api.OK},
		// the image of 0 to 3 by 2 and 1/2 is 1/2 to 2
		{"0 3", by(api.PtOne, "2", "1/2"), api.OK},
		{"1/2 3", by(api.PtOne, "2", "1/2"), api.OK},
		{"0 3", by(api.PtOne, "2", "0"), points.ErrFault},
		{"0 3", by(api.PtNone, "2", "1/2"), points.ErrFault},
		{"0 3", by(api.PtShrink, "2", "1/2", "5/8 2"), points.ErrFault},
		{"0 3", by(api.PtShrink, "2", "1/2", "1/2 15/8"), points.ErrFault},
		{"0 3", by(api.PtShrink, "2", "1/2", "-1/8 2"), points.ErrFault},
		{"0 3", by(api.PtShrink, "2", "1/2", "1/2 25/8"), points.ErrFault},
		// the image of 3/4 to 3 by 2 and 0 is all of it; that of 2 to 3 by 2 and 1 is 1, and any box will do
		{"3/4 3", by(api.PtShrink, "2", "0", "3/4 2"), points.ErrFault},
		{"2 3", by(api.PtShrink, "2", "1", "2 5/2"), points.ErrTree},
		{"2 3", by(api.PtShrink, "2", "1", "3/2 5/2"), points.ErrFault},
		{"0 3", by(api.PtShrink, "2", "1/2", "1/2 2"), points.ErrTree},
		{"0 3", by(api.PtShrink, "2", "1/2", "0 3"), points.ErrTree},
	} {
		want := 0
		if c.want == points.ErrTree {
			want = 1 // the item behind it is missing
		}
		if _, item, e := points.Check(n, ranges(c.box), proofOf(c.it)); item != want || e != c.want {
			t.Errorf("%v over %s: Check = %d, %d", c.it, c.box, item, e)
		}
		agree(t, n, ranges(c.box), proofOf(c.it))
	}
}

// splits is a proof of the number of items, most of which split a box of the line off that has nothing.
func splits(n int) api.PtProof {
	var q api.PtProof
	for i := 0; i+3 <= n; i += 2 {
		at, _ := value.Ratio(int64(1000-i), 1)
		q.Items = append(q.Items, api.PtItem{Kind: api.PtSplit, At: value.Text(at)})
	}
	q.Items = append(q.Items, by(api.PtOne, "1", "1"))
	for len(q.Items) < n {
		q.Items = append(q.Items, api.PtItem{Kind: api.PtEmpty})
	}
	return q
}

func TestP4_4Trees(t *testing.T) {
	n := line(t)
	box := ranges("0 1001")
	bad := api.PtItem{Kind: 9}
	for _, c := range []struct {
		q    api.PtProof
		ones int
		item int
		e    api.Errno
	}{
		{proofOf(), 0, 0, points.ErrTree},
		{splits(1), 1, 0, api.OK},
		{splits(399), 1, 0, api.OK},
		{splits(401), 0, 400, api.ErrLong},
		{splits(411), 0, 400, api.ErrLong},
		{proofOf(splits(399).Items[:398]...), 0, 398, points.ErrTree},
		{proofOf(splits(401).Items[:400]...), 0, 400, points.ErrTree},
		{proofOf(append(splits(399).Items, bad)...), 0, 399, points.ErrTree},
		{proofOf(append(splits(399).Items, bad, bad)...), 0, 399, points.ErrTree},
		{proofOf(append(splits(401).Items[:400], bad)...), 0, 400, api.ErrLong},
		{proofOf(append(splits(1).Items, bad)...), 0, 1, points.ErrTree},
		{proofOf(append(splits(5).Items, splits(5).Items...)...), 0, 5, points.ErrTree},
		{proofOf(splits(5).Items[:1]...), 0, 1, points.ErrTree},
		{proofOf(splits(5).Items[:4]...), 0, 4, points.ErrTree},
		{proofOf(append(splits(5).Items[:3], bad)...), 0, 3, points.ErrItem},
		{proofOf(append(splits(5).Items[:3], splits(1).Items...)...), 0, 3, points.ErrItem},
		{proofOf(append(splits(5).Items[:4], by(api.PtOne, "1000", "1"))...), 0, 4, points.ErrFault},
	} {
		if ones, item, e := points.Check(n, box, c.q); ones != c.ones || item != c.item || e != c.e {
			t.Errorf("Check of %d items = %d, %d, %d, not %d, %d", len(c.q.Items), ones, item, e, c.item, c.e)
		}
		agree(t, n, box, c.q)
	}
	// An even number of items: one of them shrinks the box.
	q := proofOf(append([]api.PtItem{by(api.PtShrink, "1", "0", "0 1001")}, splits(399).Items...)...)
	if ones, item, e := points.Check(n, box, q); ones != 1 || item != 0 || e != api.OK || len(q.Items) != api.MaxPtItems {
		t.Errorf("Check of %d items = %d, %d, %d", len(q.Items), ones, item, e)
	}
}

// The lower half comes first.
func TestP4_4Order(t *testing.T) {
	n := device(t, "0 1 | 1 | 2 -1 | 3 | -4 1") // the roots are 0, 2 and 4
	split := func(at api.Val) api.PtItem { return api.PtItem{Kind: api.PtSplit, At: at} }
	up, down := by(api.PtOne, "0", "1"), by(api.PtOne, "2", "-1")
	end := by(api.PtOne, "4", "1")
	box := ranges("-1 5")
	q := proofOf(split("1/2"), up, split("5/4"), api.PtItem{Kind: api.PtEmpty}, split("11/4"), by(api.PtShrink, "2", "-1", "3/2 5/2"), down, split("7/2"), api.PtItem{Kind: api.PtEmpty}, end)
	l, e := points.Boxes(n, box, q)
	var texts []string
	for _, b := range l {
		texts = append(texts, showRanges(b))
	}
	if e != api.OK || !slices.Equal(texts, []string{"-1 1/2", "3/2 5/2", "7/2 5"}) {
		t.Errorf("Boxes = %q, %d", texts, e)
	}
	agree(t, n, box, q)
}

// The errors of the box come before the proof, and the first one of them decides.
func TestP4_4BoxErrors(t *testing.T) {
	n := read(t, "i i1 0 1 1", "r r1 1 0 1", "r r2 2 0 1")
	long := string(digits(1001))
	for _, c := range []struct {
		box  string
		want api.Errno
	}{
		{"0 1 x 1", api.ErrForm}, {"0 1 0 x", api.ErrForm}, {"1 0 0 x", api.ErrForm}, {"1 0 0 " + long, api.ErrLong}, {"0 " + long + " x 1", api.ErrLong},
		{"x " + long + " 1 1", api.ErrForm}, {long + " x 1 1", api.ErrLong}, {"1 0 1 1", api.ErrRange}, {"1 1 1 0", api.ErrRange}, {"1 1", api.ErrArg}, {"x x", api.ErrArg}, {"1 1 1 1 x x", api.ErrArg},
		{"0 0 0 0", points.ErrTree},
	} {
		box := ranges(c.box)
		if ones, item, e := points.Check(n, box, api.PtProof{}); ones != 0 || item != 0 || e != c.want {
			t.Errorf("Check over %.40s = %d, %d, %d", c.box, ones, item, e)
		}
		if l, e := points.Boxes(n, box, api.PtProof{}); l != nil || e != c.want {
			t.Errorf("Boxes over %.40s = %v, %d", c.box, l, e)
		}
		if c.want == points.ErrTree {
			continue
		}
		if q, e := points.Derive(n, box, api.PtPlan{}); len(q.Items) != 0 || e != c.want {
			t.Errorf("Derive over %.40s = %v, %d", c.box, q, e)
		}
		if l, e := points.Narrow(n, box, 0, -1); l != nil || e != c.want {
			t.Errorf("Narrow over %.40s = %v, %d", c.box, l, e)
		}
	}
	bad, _ := net.With(n, 0, "1")
	bad.Elems[1].Val = "-1"
	for _, c := range []struct {
		n    api.Net
		want api.Errno
	}{{bad, api.ErrRange}, {api.Net{Nodes: 13}, api.ErrLong}} {
		if _, item, e := points.Check(c.n, nil, api.PtProof{}); item != 0 || e != c.want {
			t.Errorf("Check = %d, %d", item, e)
		}
		if _, e := points.Boxes(c.n, nil, api.PtProof{}); e != c.want {
			t.Errorf("Boxes = %d", e)
		}
		if _, e := points.Derive(c.n, nil, api.PtPlan{}); e != c.want {
			t.Errorf("Derive = %d", e)
		}
		if _, e := points.Narrow(c.n, nil, 0, 0); e != c.want {
			t.Errorf("Narrow = %d", e)
		}
	}
}
