package filter_test

import (
	"fmt"
	"math"
	"slices"
	"strings"
	"sync"
	"testing"

	"pentode/api"
	"pentode/filter"
	"pentode/value"
)

// arguments are what all functions are called with.
type arguments struct {
	n, cuts  int
	p, q     []value.Num
	x, y     value.Num
	sections [][2]value.Num
	span     value.Span
	mask     []api.FlBand
	task     api.FlTask
}

// lists are the results of all functions that return a list.
func (a arguments) lists() (lists [][]value.Num, errnos []api.Errno) {
	add := func(l []value.Num, e api.Errno) {
		lists, errnos = append(lists, l), append(errnos, e)
	}
	add(filter.Bessel(a.n))
	add(filter.Binomial(a.n))
	add(filter.Denorm(a.p, a.x))
	add(filter.High(a.p))
	add(filter.Band(a.p, a.x, a.y))
	add(filter.Fraction(a.p))
	add(filter.Ladder(a.p))
	add(filter.Bilinear(a.p, a.n, a.x))
	add(filter.Back(a.p, a.n, a.x))
	add(filter.Square(a.p))
	return lists, errnos
}

// answers are all results for some arguments, as one text.
func answers(a arguments) string {
	lists, errnos := a.lists()
	all := []any{errnos}
	for _, l := range lists {
		all = append(all, show(l))
	}
	add := func(l ...any) { all = append(all, l...) }
	add(filter.Net(a.p, a.x, a.y))
	add(filter.Chain(a.sections))
	add(filter.Schur(a.p))
	add(filter.Nonneg(a.p, a.span))
	band, at, e := filter.Meets(a.p, a.q, a.mask)
	add(band, value.Text(at), e)
	add(filter.Prove(a.task, a.cuts))
	return fmt.Sprint(all...)
}

// spoilt makes some of the arguments other ones, most of which are not valid.
func (a arguments) spoilt(which, w int, v api.Val) arguments {
	switch which {
	case 0:
		a.n, a.cuts = w, w
	case 1:
		a.x = value.Int(int64(w))
	case 2:
		a.y = value.Int(int64(w))
	case 3:
		a.p = append(a.p, make([]value.Num, 50)...)
	case 4:
		a.p = append(a.p, power(30)...)
	case 5:
		a.span.Hi = value.Int(int64(w))
	case 6:
		a.mask = append(a.mask, api.FlBand{Lo: v, Hi: "5", Least: "0", Most: v})
	case 7:
		a.mask = slices.Clone(a.mask)
		a.mask[0].Most = v
	case 8:
		a.task.Mask = a.mask[:w&1]
	case 9:
		a.task.Box = append(a.task.Box, api.Range{Lo: v, Hi: v})
	case 10:
		a.task.Num = append(a.task.Num, api.SyTerm{Coef: v, Pows: make([]int, len(a.task.Box)+1)})
	case 11:
		a.task.Den = append(a.task.Den, api.SyTerm{Coef: "1", Pows: slices.Repeat([]int{w}, len(a.task.Box)+1)})
	case 12:
		a.task.Den = nil
	case 13:
		a.p, a.sections = nil, nil
	case 14:
		a.q = power(w & 31)
	}
	return a
}

// anyArguments are of many kinds.
func anyArguments() []arguments {
	far := []int{0, 1, -1, 2, 5, 20, 21, 40, 41, 100, 101, math.MaxInt, math.MinInt}
	odd := []api.Val{"", "1", "0", "-1/2", "x", "1/0", "\xff", digits(1000), "1/" + digits(1000), digits(1001), digits(20000), api.Val(strings.Repeat("7", 1000))}
	huge := arguments{p: make([]value.Num, 3000), q: make([]value.Num, 3000), sections: make([][2]value.Num, 3000), mask: make([]api.FlBand, 3000)}
	huge.p[2999] = value.Int(1)
	huge.task = api.FlTask{Num: make([]api.SyTerm, 3000), Den: make([]api.SyTerm, 3000), Box: make([]api.Range, 3000), Mask: huge.mask}
	list := []arguments{{}, huge}
	g := newNumbers()
	for i := range 400 {
		a := arguments{n: g.below(12), cuts: g.below(9), p: g.poly(8), q: g.poly(8), x: g.above(), y: g.above(), span: value.Span{Lo: g.num(), Hi: g.num()}}
		if g.below(2) == 0 {
			a.p = g.hurwitz(1 + g.below(8))
		}
		for range 1 + g.below(2) {
			a.sections = append(a.sections, [2]value.Num{g.above(), g.above()})
		}
		a.mask = g.bands(a.p, a.q)
		a.task = g.task(g.below(4), 4)
		list = append(list, a.spoilt(i%20, far[g.below(len(far))], odd[g.below(len(odd))]))
	}
	return list
}

func TestP8_13AnyArguments(t *testing.T) {
	list := anyArguments()
	var before, first []string
	for _, a := range list {
		before = append(before, fmt.Sprint(a))
		first = append(first, answers(a))
	}
	// Goroutines share the arguments: what changes one of them is found by the race detector, too.
	var group sync.WaitGroup
	for range 4 {
		group.Go(func() {
			for i, a := range list {
				if got := answers(a); got != first[i] {
					t.Errorf("the answers for %.200s are others", before[i])
				}
			}
		})
	}
	group.Wait()
	for i, a := range list {
		if now := fmt.Sprint(a); now != before[i] {
			t.Errorf("%.200s was changed to %.200s", before[i], now)
		}
	}
}

// wipe changes a list, also what could be behind its end.
func wipe[T any](list []T) {
	clear(list[:cap(list)])
	_ = append(list, make([]T, 3)...)
}

func TestP8_13ResultsAreNewMemory(t *testing.T) {
	a := arguments{
		n: 9, cuts: 5, p: times(nums(t, "2 1"), 3), q: nums(t, "9 1"), x: ratio(1, 3), y: ratio(5, 2), sections: [][2]value.Num{{ratio(1, 2), ratio(3, 1)}},
		span: span(t, "2 1"), mask: mask("0 1 0 1"), task: lowPass("1 2", "0 1 0 1"),
	}
	// Behind the ends of the lists is something that has to stay as well.
	a.p, a.q = append(a.p, ints(7, 8, 9)...)[:4], append(a.q, ints(7, 8)...)[:2]
	a.mask = append(a.mask, mask("5 6 7 8")...)[:1]
	a.task.Box, a.task.Mask = append(a.task.Box, ranges("7 8 9 9")...)[:1], append(a.task.Mask, mask("5 6 7 8")...)[:1]
	a.task.Num, a.task.Den = append(a.task.Num, terms("7 7 7")...)[:1], append(a.task.Den, terms("7 7 7")...)[:2]
	behind := func() string {
		return fmt.Sprint(a, a.p[:7], a.q[:4], a.mask[:2], a.task.Box[:3], a.task.Mask[:2], a.task.Num[:2], a.task.Den[:3])
	}
	before, first := behind(), answers(a)
	for range 2 {
		lists, errnos := a.lists()
		for i, l := range lists {
			if errnos[i] != api.OK || len(l) == 0 {
				t.Fatalf("the function %d: %d", i, errnos[i])
			}
			wipe(l)
		}
		n, e := filter.Net(a.p, a.x, a.y)
		wipe(n.Elems)
		m, f := filter.Chain(a.sections)
		wipe(m.Elems)
		if e != api.OK || f != api.OK {
			t.Fatal("there are no nets")
		}
	}
	if behind() != before || answers(a) != first {
		t.Error("results share memory with arguments, or with what is kept")
	}
}
