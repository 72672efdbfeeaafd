package desk_test

import (
	"fmt"
	"regexp"
	"slices"
	"strconv"
	"strings"
	"sync"

	"pentode/api"
	"pentode/filter"
	"pentode/net"
	"pentode/points"
	"pentode/probe"
	"pentode/spread"
	"pentode/symbol"
	"pentode/value"
	"pentode/wave"
)

// The chapter written again: the forms of commands are regular expressions, and what is called is called with what their groups have.

// kinds are the expressions of the words of a kind; for NUM they leave some words that value.Read does not.
var kinds = strings.NewReplacer(
	"NUM", `-?[0-9][^ ]*`,
	"INT", `(?:0|-?[1-9][0-9]{0,8})`,
	"UNKNOWN", `(?:v:[a-z0-9][a-z0-9._]{0,39}|i:[a-z][a-z0-9._]{0,39})`,
	"ELEM", `[a-z][a-z0-9._]{0,39}`,
)

// rows are the rows of the table. The words of each group are of the kinds that are named behind the form, in turn: n, i, u and e.
var rows = []struct {
	form   string
	groups []string
	each   int // numbers for each unknown, in the last group
	call   func(query) ([]string, api.Errno)
}{
	{`text`, nil, 0, oracleText},
	{`unknowns`, nil, 0, oracleUnknowns},
	{`loop`, nil, 0, func(q query) ([]string, api.Errno) { return oracleLoop(q, false) }},
	{`loop dc`, nil, 0, func(q query) ([]string, api.Errno) { return oracleLoop(q, true) }},
	{`cut`, nil, 0, func(q query) ([]string, api.Errno) { return oracleCut(q, false) }},
	{`cut dc`, nil, 0, func(q query) ([]string, api.Errno) { return oracleCut(q, true) }},
	{`exact`, nil, 0, oracleExact},
	{`points (INT INT)((?: NUM)*)`, []string{"i", "n"}, 2, oraclePoints},
	{`narrow (INT INT)((?: NUM)*)`, []string{"i", "n"}, 2, oracleNarrow},
	{`stable((?: NUM)*)`, []string{"n"}, 1, oracleStable},
	{`char`, nil, 0, oracleChar},
	{`ratio (ELEM UNKNOWN)`, []string{"eu"}, 0, oracleRatio},
	{`transfer (ELEM UNKNOWN)((?: ELEM)*)`, []string{"eu", "e"}, 0, oracleTransfer},
	{`wave (NUM NUM NUM INT)((?: NUM)*)`, []string{"nnni", "n"}, 1, oracleWave},
	{`enclose (NUM INT INT)((?: NUM)*)`, []string{"nii", "n"}, 2, oracleEnclose},
	{`worst (UNKNOWN) and((?: ELEM NUM NUM)*)`, []string{"u", "enn"}, 0, oracleWorst},
	{`yield (INT NUM NUM UNKNOWN) and((?: ELEM NUM NUM)*)`, []string{"innu", "enn"}, 0, oracleYield},
	{`faults (NUM NUM NUM) and((?: UNKNOWN NUM)*) by((?: ELEM NUM NUM)*)`, []string{"n", "un", "enn"}, 0, oracleFaults},
	{`ladder (NUM NUM)((?: NUM)*)`, []string{"n", "n"}, 0, oracleLadder},
}

// expressions are those of the rows.
var expressions = sync.OnceValue(func() []*regexp.Regexp {
	var list []*regexp.Regexp
	for _, row := range rows {
		list = append(list, regexp.MustCompile(`^`+kinds.Replace(row.form)+`$`))
	}
	return list
})

// query is a circuit, and what the words of a line are, group by group and kind by kind.
type query struct {
	f     api.NtFile
	own   []int
	nums  [3][]value.Num
	vals  [3][]api.Val
	ints  []int
	outs  []int
	elems [3][]int
}

// ownCurrents are the numbers of elements that carry a current of their own.
func ownCurrents(n api.Net) []int {
	var own []int
	for i, e := range n.Elems {
		if e.Kind == api.ElL || e.Kind == api.ElV || e.Kind == api.ElE || e.Kind == api.ElH {
			own = append(own, i)
		}
	}
	return own
}

func (q query) size() int {
	return len(q.f.Nodes) + len(q.own)
}

// oracle is what Line has to return.
func oracle(f api.NtFile, line string) ([]string, api.Errno) {
	is, e := net.Order(f)
	q := query{f: f, own: ownCurrents(f.Net)}
	switch {
	case e != api.OK:
		return nil, e
	case !is:
		return nil, api.ErrForm
	case q.size() > 12:
		return nil, api.ErrLong
	case len(line) > 4000:
		return nil, api.ErrLong
	case strings.Contains(line, "\n"):
		return nil, api.ErrForm
	}
	words := slices.DeleteFunc(strings.Split(line, " "), func(word string) bool { return word == "" })
	if len(words) == 0 || words[0][0] == '*' {
		return nil, api.OK
	}
	plain := strings.Join(words, " ")
	for i, row := range rows {
		if m := expressions()[i].FindStringSubmatch(plain); m != nil {
			if e := q.fill(m[1:], row.groups, row.each); e != api.OK {
				return nil, e
			}
			return row.call(q)
		}
	}
	return nil, api.ErrForm
}

// fill reads the groups of a line.
func (q *query) fill(groups, kinds []string, each int) api.Errno {
	first := map[string]api.Errno{}
	set := func(kind string, e api.Errno) {
		if first[kind] == api.OK {
			first[kind] = e
		}
	}
	count := 0
	for at, group := range groups {
		list := strings.Fields(group)
		count = len(list)
		for i, word := range list {
			switch kinds[at][i%len(kinds[at])] {
			case 'n':
				x, e := value.Read(word)
				if e == api.ErrForm {
					set("form", e)
				}
				set("number", e)
				q.nums[at], q.vals[at] = append(q.nums[at], x), append(q.vals[at], value.Text(x))
			case 'i':
				n, _ := strconv.Atoi(word)
				q.ints = append(q.ints, n)
			case 'u':
				if word == "v:0" {
					set("form", api.ErrForm)
				}
				q.outs = append(q.outs, q.unknown(word))
				if slices.Contains(q.outs, -1) {
					set("name", api.ErrNone)
				}
			case 'e':
				q.elems[at] = append(q.elems[at], slices.Index(q.f.Elems, word))
				if slices.Contains(q.elems[at], -1) {
					set("name", api.ErrNone)
				}
			}
		}
	}
	if each > 0 && count != each*q.size() {
		set("count", api.ErrArg)
	}
	for _, kind := range []string{"form", "number", "name", "count"} {
		if first[kind] != api.OK {
			return first[kind]
		}
	}
	return api.OK
}

// unknown is the number of an unknown, or -1.
func (q *query) unknown(word string) int {
	if node, is := strings.CutPrefix(word, "v:"); is {
		return slices.Index(q.f.Nodes, node)
	}
	for i, elem := range q.own {
		if q.f.Elems[elem] == strings.TrimPrefix(word, "i:") {
			return len(q.f.Nodes) + i
		}
	}
	return -1
}

// flat writes some things as words: numbers, integers, texts, and lists and ranges of these.
func flat(all ...any) string {
	var words []string
	for _, one := range all {
		switch x := one.(type) {
		case []value.Num:
			for _, n := range x {
				words = append(words, string(value.Text(n)))
			}
		case []api.Range:
			for _, r := range x {
				words = append(words, string(r.Lo), string(r.Hi))
			}
		case []api.Val:
			for _, v := range x {
				words = append(words, string(v))
			}
		case []int:
			for _, n := range x {
				words = append(words, strconv.Itoa(n))
			}
		default:
			words = append(words, fmt.Sprint(x))
		}
	}
	return strings.Join(words, " ")
}

// pairs are ranges of texts.
func pairs(list []api.Val) []api.Range {
	var all []api.Range
	for i := 0; i+1 < len(list); i += 2 {
		all = append(all, api.Range{Lo: list[i], Hi: list[i+1]})
	}
	return all
}

// told are lines, unless there is an error.
func told(e api.Errno, list ...string) ([]string, api.Errno) {
	if e != api.OK {
		return nil, e
	}
	return list, api.OK
}

func oracleText(q query) ([]string, api.Errno) {
	s, e := net.Print(q.f)
	list := strings.SplitAfter(s, "\n")
	for i, line := range list {
		list[i] = strings.TrimSuffix(line, "\n")
	}
	return told(e, list[:len(list)-1]...)
}

func oracleUnknowns(q query) ([]string, api.Errno) {
	line := "unknowns"
	for _, node := range q.f.Nodes {
		line += " v:" + node
	}
	for _, elem := range q.own {
		line += " i:" + q.f.Elems[elem]
	}
	return told(api.OK, line)
}

func oracleLoop(q query, dc bool) ([]string, api.Errno) {
	list, e := net.Loop(q.f.Net, dc)
	line := "loop"
	for _, elem := range list {
		line += " " + q.f.Elems[elem]
	}
	return told(e, line)
}

func oracleCut(q query, dc bool) ([]string, api.Errno) {
	list, e := net.Cut(q.f.Net, dc)
	line := "cut"
	for _, node := range list {
		line += " " + q.f.Nodes[node-1]
	}
	return told(e, line)
}

func oracleExact(q query) ([]string, api.Errno) {
	list, e := points.Exact(q.f.Net)
	var all []string
	for _, x := range list {
		all = append(all, flat(append([]any{"point"}, x)...))
	}
	return told(e, all...)
}

// boxesOf are lines for boxes.
func boxesOf(list [][]api.Range) []string {
	var all []string
	for _, box := range list {
		all = append(all, flat("box", box))
	}
	return all
}

func oraclePoints(q query) ([]string, api.Errno) {
	box := pairs(q.vals[1])
	proof, e := points.Derive(q.f.Net, box, api.PtPlan{Bits: q.ints[0], Items: q.ints[1]})
	if e != api.OK {
		return nil, e
	}
	list, e := points.Boxes(q.f.Net, box, proof)
	return told(e, append([]string{flat("points", len(list))}, boxesOf(list)...)...)
}

func oracleNarrow(q query) ([]string, api.Errno) {
	box, e := points.Narrow(q.f.Net, pairs(q.vals[1]), q.ints[0], q.ints[1])
	return told(e, flat("box", box))
}

func oracleStable(q query) ([]string, api.Errno) {
	right, axis, e := points.Stable(q.f.Net, q.nums[0])
	return told(e, flat("stable", right, axis))
}

func oracleChar(q query) ([]string, api.Errno) {
	p, e := points.Char(q.f.Net)
	return told(e, flat("char", p))
}

func oracleRatio(q query) ([]string, api.Errno) {
	num, den, e := symbol.Ratio(api.SyTask{Net: q.f.Net, In: q.elems[0][0], Out: q.outs[0]})
	return told(e, flat("num", num), flat("den", den))
}

func oracleTransfer(q query) ([]string, api.Errno) {
	num, den, e := symbol.Transfer(api.SyTask{Net: q.f.Net, In: q.elems[0][0], Out: q.outs[0], Syms: q.elems[1]})
	var all []string
	for _, term := range num {
		all = append(all, flat("num", term.Coef, term.Pows))
	}
	for _, term := range den {
		all = append(all, flat("den", term.Coef, term.Pows))
	}
	return told(e, all...)
}

func oracleWave(q query) ([]string, api.Errno) {
	list, e := wave.Run(api.WvTask{Net: q.f.Net, Step: q.vals[0][0], End: q.vals[0][1], Tol: q.vals[0][2], Bits: q.ints[0], Start: q.vals[1]})
	var all []string
	for _, s := range list {
		all = append(all, flat("at", s.Time, s.X))
	}
	return told(e, all...)
}

func oracleEnclose(q query) ([]string, api.Errno) {
	list, e := wave.Enclose(q.f.Net, pairs(q.vals[1]), q.vals[0][0], q.ints[0], q.ints[1])
	return told(e, boxesOf(list)...)
}

func oracleWorst(q query) ([]string, api.Errno) {
	w, e := spread.Worst(api.SpTask{Net: q.f.Net, Elems: q.elems[1], Ranges: pairs(q.vals[1]), Out: q.outs[0]})
	return told(e, flat("worst", w.Lo, w.Hi, w.LoAt, w.HiAt))
}

func oracleYield(q query) ([]string, api.Errno) {
	task := api.SpTask{Net: q.f.Net, Elems: q.elems[1], Ranges: pairs(q.vals[1]), Out: q.outs[0]}
	y, e := spread.Yield(task, pairs(q.vals[0])[0], q.ints[0])
	return told(e, flat("yield", y.Lo, y.Hi, y.Boxes))
}

func oracleFaults(q query) ([]string, api.Errno) {
	task := api.PbTask{Net: q.f.Net, Outs: q.outs, Meters: make([]api.PbMeter, len(q.outs))}
	for i := range task.Meters {
		task.Meters[i] = api.PbMeter{Abs: q.vals[0][0], Rel: q.vals[0][1], Step: q.vals[0][2]}
	}
	for i, r := range pairs(q.vals[2]) {
		task.Faults = append(task.Faults, api.PbFault{Elem: q.elems[2][i], Range: r})
	}
	list, e := probe.Candidates(task, q.vals[1])
	return told(e, flat("faults", list))
}

func oracleLadder(q query) ([]string, api.Errno) {
	p := q.nums[1]
	for len(p) > 0 && value.Sign(p[len(p)-1]) == 0 {
		p = p[:len(p)-1]
	}
	numbers, e := filter.Ladder(p)
	if e != api.OK {
		return nil, e
	}
	n, e := filter.Net(numbers, q.nums[0][0], q.nums[0][1])
	if e != api.OK {
		return nil, e
	}
	// Lines are written by what a ladder is, not by net.Print.
	var all []string
	node := map[int]string{0: "0"}
	for i, x := range n.Elems {
		for _, k := range []int{x.A, x.B} {
			if k > 0 {
				node[k] = "n" + strconv.Itoa(k)
			}
		}
		word := map[int]string{api.ElV: "v", api.ElL: "l", api.ElC: "c", api.ElR: "r"}[x.Kind]
		all = append(all, flat(word, "e"+strconv.Itoa(i+1), node[x.A], node[x.B], x.Val))
	}
	return told(api.OK, all...)
}
