package desk_test

import (
	"slices"
	"strings"
	"testing"

	"pentode/api"
	"pentode/desk"
)

// someLines are lines of all kinds, also wrong ones.
func someLines() []string {
	return []string{"", "*", "text", "exact", "unknowns", "x", "exact\n", strings.Repeat(" ", api.MaxDkLine+1), "stable", "ratio v1 v:9", "ladder 1 1 1 1"}
}

func TestP11_1FileIsNotValid(t *testing.T) {
	resistor := func(e api.Elem) api.NtFile {
		return api.NtFile{Net: api.Net{Nodes: 1, Elems: []api.Elem{e}}, Nodes: []string{"a"}, Elems: []string{"r"}}
	}
	for want, list := range map[api.Errno][]api.NtFile{
		api.ErrRange: {
			{Net: api.Net{Nodes: -1}},
			{Net: api.Net{Nodes: api.MaxNodes + 1}},
			resistor(api.Elem{Kind: api.ElR, A: 2, Val: "1"}),
			resistor(api.Elem{Kind: api.ElR, A: 1, Val: "0"}),
		},
		api.ErrLong: {
			{Net: api.Net{Elems: make([]api.Elem, api.MaxElems+1)}},
			{Net: api.Net{Models: make([]api.Model, api.MaxModels+1)}},
			resistor(api.Elem{Kind: api.ElR, A: 1, Val: api.Val(digits(1001))}),
		},
		api.ErrArg: {
			{Net: api.Net{Models: make([]api.Model, 1)}},
			resistor(api.Elem{Kind: 14, A: 1, Val: "1"}),
			resistor(api.Elem{Kind: api.ElR, A: 1, C: 1, Val: "1"}),
		},
		api.ErrForm: {
			resistor(api.Elem{Kind: api.ElR, A: 1, Val: "1k"}),
			resistor(api.Elem{Kind: api.ElR, A: 1}),
		},
	} {
		for _, f := range list {
			for _, line := range someLines() {
				fails(t, f, line, want)
			}
		}
	}
}

func TestP11_1FileIsNotInOrder(t *testing.T) {
	spoil := map[string]func(f *api.NtFile){
		"a node too many":          func(f *api.NtFile) { f.Nodes = append(f.Nodes, "z") },
		"a node too few":           func(f *api.NtFile) { f.Nodes = f.Nodes[:1] },
		"an element too many":      func(f *api.NtFile) { f.Elems = append(f.Elems, "z") },
		"an element too few":       func(f *api.NtFile) { f.Elems = f.Elems[:1] },
		"a model too many":         func(f *api.NtFile) { f.Models = []string{"z"} },
		"the ground as a node":     func(f *api.NtFile) { f.Nodes[0] = "0" },
		"a node without a name":    func(f *api.NtFile) { f.Nodes[0] = "" },
		"an element with no name":  func(f *api.NtFile) { f.Elems[0] = "1" },
		"two nodes of one name":    func(f *api.NtFile) { f.Nodes[1] = f.Nodes[0] },
		"two elements of one name": func(f *api.NtFile) { f.Elems[1] = f.Elems[0] },
		"a long name":              func(f *api.NtFile) { f.Elems[0] = strings.Repeat("x", api.MaxName+1) },
		"nodes in another order":   func(f *api.NtFile) { f.Net.Elems[0].A = 2 },
		"a node of no element":     func(f *api.NtFile) { f.Net.Nodes, f.Nodes = 3, append(f.Nodes, "z") },
	}
	for what, change := range spoil {
		f := copied(read(t, divider))
		change(&f)
		for _, line := range someLines() {
			fails(t, f, line, api.ErrForm)
		}
		if t.Failed() {
			t.Fatal(what)
		}
	}
}

func TestP11_1FileIsTooLong(t *testing.T) {
	for _, line := range someLines() {
		fails(t, read(t, wide(api.MaxUnknowns+1)), line, api.ErrLong)
	}
	f := read(t, wide(api.MaxUnknowns))
	answers(t, f, "unknowns", "unknowns v:n1 v:n2 v:n3 v:n4 v:n5 v:n6 v:n7 v:n8 v:n9 v:n10 v:n11 i:v1")
	fails(t, f, "x", api.ErrForm)
	// Not in order comes before too many unknowns.
	f = read(t, wide(api.MaxUnknowns+1))
	f.Nodes[0] = "0"
	fails(t, f, "unknowns", api.ErrForm)
}

func TestP11_1EmptyLines(t *testing.T) {
	f := read(t, tunnel)
	for _, line := range []string{"", " ", "     ", "*", "  * ", "*exact", "* exact", "** \xff\t\x00", "*\r", strings.Repeat(" ", api.MaxDkLine), strings.Repeat("*", api.MaxDkLine)} {
		answers(t, f, line, "")
	}
	for _, line := range []string{"\t", "exact *", "\xff", "\x00", "x * y"} {
		fails(t, f, line, api.ErrForm)
	}
}

func TestP11_1LongLines(t *testing.T) {
	f := read(t, tunnel)
	for _, begin := range []string{"", "*", "unknowns", "   unknowns"} {
		line := begin + strings.Repeat(" ", api.MaxDkLine-len(begin))
		want := ""
		if strings.Contains(begin, "unknowns") {
			want = "unknowns v:1 v:2 i:v1"
		}
		answers(t, f, line, want)
		fails(t, f, line+" ", api.ErrLong)
		fails(t, f, line+"\n", api.ErrLong)
		fails(t, f, "\n"+line, api.ErrLong)
		fails(t, f, line[1:]+"\n", api.ErrForm)
	}
	fails(t, f, "x"+strings.Repeat(" ", api.MaxDkLine), api.ErrLong)
	fails(t, f, strings.Repeat("exact\n", 10000), api.ErrLong)
}

func TestP11_1LinesInALine(t *testing.T) {
	f := read(t, tunnel)
	for _, line := range []string{"\n", "\n\n", "unknowns\n", "\nunknowns", "unknowns\nunknowns", "unknowns \n", "*\n", "* x\n* y", " \n ", "* \n"} {
		fails(t, f, line, api.ErrForm)
	}
}

func TestP11_1Blanks(t *testing.T) {
	f := read(t, divider)
	for _, line := range []string{
		"worst v:b and r1 1 3 r2 1/2 3/2",
		"   worst v:b and r1 1 3 r2 1/2 3/2   ",
		" worst    v:b  and r1 1     3 r2   1/2 3/2 ",
	} {
		answers(t, f, line, "worst 12/7 36/5 1 2")
	}
	for _, line := range []string{
		"worst\tv:b and r1 1 3 r2 1/2 3/2",
		"worst v:b and r1 1 3 r2 1/2 3/2\t",
		"worst v:b and r1 1 3 r2 1/2 3/2\r",
		"worst v:b and r1 1 3 r2 1/2\v3/2",
		"worst v:b\u00a0and r1 1 3 r2 1/2 3/2",
		"worst v:b and r1 1 3 r2 1/2 3/2\x00",
	} {
		fails(t, f, line, api.ErrForm)
	}
}

func TestP11_1NoCommand(t *testing.T) {
	f := read(t, tunnel)
	for _, line := range []string{
		"x", "run", "Exact", "EXACT", "exactly", "exac", "point 1", "dc", "dc loop", "v v2 1 0 1", "wave.", "1", "-", "/", "error 3 4", "ratio:", "transfers v1 v:2",
		"print", "plan", "extract", "and", "by", "\xffexact", "NUM", "INT", "BOX", "( )..",
	} {
		fails(t, f, line, api.ErrForm)
	}
}

// rightForms are lines with the words that the table says, whatever they name, and however many numbers are there for unknowns.
func rightForms() []string {
	return []string{
		"text", "unknowns", "loop", "loop dc", "cut", "cut dc", "exact", "char",
		"points 8 5", "points 8 5 1", "points 8 5 1 2", "points 8 5 1 2 3", "points 8 5 0 20 0 20 -20 0",
		"narrow 8 5", "narrow 8 5 1", "narrow 8 5 1 2", "narrow 8 5 0 20 0 20 -20 0",
		"stable", "stable 1", "stable 1 2", "stable 1 2 3", "stable 1 2 3 4 5",
		"ratio v1 v:b", "transfer v1 v:b", "transfer v1 v:b r1", "transfer v1 v:b r1 r2", "transfer v1 v:b r1 r2 r1 r2 r1 r2 r1",
		"wave 1 1 0 20", "wave 1 1 0 20 1", "wave 1 1 0 20 12 4 -4",
		"enclose 1 1 20", "enclose 1 1 20 1", "enclose 1 1 20 0 1 0 1 0 1",
		"worst v:b and", "worst v:b and r1 1 2", "worst v:b and r1 1 2 r2 1 2",
		"yield 1 1 2 v:b and", "yield 1 1 2 v:b and r1 1 2", "yield 1 1 2 v:b and r1 1 2 r2 1 2",
		"faults 0 0 0 and by", "faults 0 0 0 and v:b 1 by", "faults 0 0 0 and v:b 1 i:v1 2 by",
		"faults 0 0 0 and by r1 1 2", "faults 0 0 0 and v:b 1 i:v1 2 by r1 1 2 r2 1 2",
		"ladder 1 1", "ladder 1 1 1", "ladder 1 1 1 2 1",
	}
}

// No function that is called has ErrForm for this circuit.
func TestP11_1Forms(t *testing.T) {
	f := read(t, divider)
	others := []string{"", "x", "v:b", "i:v1", "1", "1/2", "and", "by", "dc", "(", "-", "NUM", "v1"}
	for _, line := range rightForms() {
		if _, e := desk.Line(f, line); e == api.ErrForm {
			t.Errorf("%q has not the right form", line)
		}
		words := strings.Split(line, " ")
		for at := range len(words) + 1 {
			for _, other := range others {
				for _, behind := range []int{at, min(at+1, len(words))} {
					changed := strings.Join(slices.Concat(words[:at], []string{other}, words[behind:]), " ")
					want, e := oracle(f, changed)
					check(t, f, changed, want, e)
				}
			}
		}
	}
}

// Words that are missing, too many, or in other places.
func TestP11_1WrongForms(t *testing.T) {
	f := read(t, divider)
	for _, line := range []string{
		"text 1", "text text", "unknowns v:a", "loop ac", "loop dc dc", "loop 1", "cut dc 1", "cut cut", "exact 1", "exact exact", "char 1", "char v:a",
		"points", "points 8", "points 8 1/2 0 1", "points 1/2 8 0 1", "points 8 5 0 a", "points 8 5 v:a 1", "points 8 5 0 1 0 1 0 1 x", "points 8 5 by 0 1",
		"narrow", "narrow 8", "narrow 8 1.0 0 1", "narrow 8 5 0 a",
		"stable v:a", "stable 1 2 x", "stable 1 2 and 3",
		"ratio", "ratio v1", "ratio v:b v1", "ratio v:b v:b", "ratio v1 v1", "ratio v1 b", "ratio v1 v:b r1", "ratio v1 v:b 1", "ratio v1 1", "ratio 1 v:b",
		"transfer", "transfer v1", "transfer v1 r1", "transfer v1 v:b 1", "transfer v1 v:b r1 v:b", "transfer v1 v:b r1 2", "transfer v1 v:b v:b",
		"wave", "wave 1 1 0", "wave 1 1 20", "wave 1 1 0 1/2 12 4 -4", "wave 1 1 0 20 12 4 x", "wave v1 1 0 20 12 4 -4",
		"enclose", "enclose 1", "enclose 1 1", "enclose 1 1/2 20 1 1", "enclose 1 1 2.0 1 1", "enclose x 1 20 1 1", "enclose 1 1 20 1 v:a",
		"worst", "worst v:b", "worst v:b by", "worst v:b r1 1 2", "worst and", "worst v1 and", "worst b and r1 1 2", "worst v:b and r1", "worst v:b and r1 1", "worst v:b and 1 2",
		"worst v:b and r1 1 2 3", "worst v:b and r1 1 2 r2", "worst v:b and r1 1 2 r2 1", "worst v:b and v:b 1 2", "worst v:b and and", "worst v:b and r1 r2 1 2",
		"yield", "yield 1", "yield 1 2 v:b and", "yield 1 2 3 and", "yield 1 2 3 v:b", "yield 1/2 2 3 v:b and", "yield 1 2 3 4 v:b and", "yield 1 2 3 v:b and r1", "yield 1 2 3 v:b and r1 1",
		"yield 1 2 3 v:b v:b and", "yield 1 2 3 v:b and r1 1 2 by", "yield 1 2 3 v:b r1 1 2",
		"faults", "faults 0 0 0", "faults 0 0 and by", "faults 0 0 0 0 and by", "faults 0 0 0 and", "faults 0 0 0 by", "faults 0 0 0 and v:b by", "faults 0 0 0 and 1 by", "faults 0 0 0 and r1 1 by",
		"faults 0 0 0 and v:b 1", "faults 0 0 0 and v:b 1 2 by", "faults 0 0 0 and v:b v:b 1 1 by", "faults 0 0 0 and v:b 1 by r1", "faults 0 0 0 and v:b 1 by r1 1", "faults 0 0 0 and v:b 1 by r1 1 2 3",
		"faults 0 0 0 and v:b 1 by v:b 1 2", "faults 0 0 0 and v:b 1 and v:b 1 by", "faults 0 0 0 by and", "faults 0 0 0 and by by",
		"ladder", "ladder 1", "ladder 1 v1", "ladder r 1 1", "ladder 1 1 x", "ladder 1 1 1 2 v:a",
	} {
		fails(t, f, line, api.ErrForm)
	}
}

// Words of a kind by their form alone, and by what they name.
func TestP11_1Integers(t *testing.T) {
	f := read(t, single)
	answers(t, f, "narrow 8 1 0 3", "box 1 1")
	answers(t, f, "narrow 8 0 0 3", "box 0 3")
	for _, word := range []string{"0", "3", "-1", "-8", "201", "999999999", "-999999999", "100000000", "-100000000"} {
		fails(t, f, "narrow "+word+" 1 0 3", api.ErrRange)
		fails(t, f, "points "+word+" 5 0 3", api.ErrRange)
	}
	for _, word := range []string{
		"-0", "00", "08", "-08", "+8", "8.", "8.0", "8/1", "16/2", "8k", "1e1", "0x8", "8_0", "-", "--8", "8-", "eight", "1000000000", "-1000000000", "0000000008",
		"99999999999999999999", digits(400), "\uff18", "8\x00",
	} {
		fails(t, f, "narrow "+word+" 1 0 3", api.ErrForm)
		fails(t, f, "narrow 8 "+word+" 0 3", api.ErrForm)
		fails(t, f, "points "+word+" 5 0 3", api.ErrForm)
		fails(t, f, "enclose 1 "+word+" 20 0 1", api.ErrForm)
		fails(t, f, "wave 1 1 1 "+word+" 1", api.ErrForm)
		fails(t, f, "yield "+word+" 1 2 v:a and", api.ErrForm)
	}
}

func TestP11_1NumbersByForm(t *testing.T) {
	f := read(t, single)
	for _, word := range []string{"0", "1", "-1", "1/2", "-1/2", "0.5", "-0.5", "007", "7.0", "-0", "1k", "1.5M", "3f", "-2T", digits(400), digits(1000) + "/3", "1/" + digits(1000)} {
		answers(t, f, "stable "+word, "stable 0 0")
	}
	for _, word := range []string{".5", "1.", "1K", "1e3", "+1", "--1", "-", "1/0", "0/1", "1/1", "2/4", "01/2", "1/-2", "1.5/2", "1k/3", "1/2k", "1 /2", "one", "kk", "1kk", "k", "/", "1/", "/2", "1,5", "\u0661"} {
		fails(t, f, "stable "+word, api.ErrForm)
		fails(t, f, "narrow 8 0 0 "+word, api.ErrForm)
		fails(t, f, "ladder "+word+" 1 1 1", api.ErrForm)
	}
	for _, word := range []string{digits(401), "0." + digits(400), digits(1001) + "/3", "1/" + digits(1001), digits(401) + "k"} {
		fails(t, f, "stable "+word, api.ErrLong)
		fails(t, f, "narrow 8 0 0 "+word, api.ErrLong)
		fails(t, f, "ladder "+word+" 1 1 1", api.ErrLong)
	}
}

func TestP11_1Unknowns(t *testing.T) {
	long := strings.Repeat("x", api.MaxName)
	f := read(t, "v v1 a 0 1; v "+long+" b.c_9 0 2; r r1 9 0 3; r r2 "+long+" 0 3; v v3 00 0 4; h h1 e 0 v1 5; r r3 a 0 1; r r4 b.c_9 0 1/2")
	for word, want := range map[string]string{"v:a": "1", "v:b.c_9": "2", "v:9": "0", "v:00": "4", "v:e": "-5", "v:" + long: "0", "i:v1": "-1", "i:" + long: "-4", "i:v3": "0", "i:h1": "0"} {
		answers(t, f, "worst "+word+" and", "worst "+want+" "+want+" 0 0")
		answers(t, f, "faults 0 0 0 and "+word+" "+want+" by", "faults 0")
	}
	for _, word := range []string{"v:b", "v:v1", "v:l1", "v:0a", "v:000", "v:1", "v:aa", "v:a.", "i:a", "i:r1", "i:r2", "i:x", "i:v", "i:v11", "v:" + long[1:], "i:" + long[1:]} {
		fails(t, f, "worst "+word+" and", api.ErrNone)
		fails(t, f, "ratio v1 "+word, api.ErrNone)
		fails(t, f, "faults 0 0 0 and "+word+" 1 by", api.ErrNone)
	}
	for _, word := range []string{
		"v:0", "v:", "i:", "v", "i", ":a", "a", "v1", "V:a", "I:v1", "v:A", "i:V1", "v:a:b", "v::a", "v-a", "v:-a", "v:.a", "v:_a", "i:.a", "i:_a", "i:9", "i:0", "i:9a", "c:a", "v:v:a", "v:a-b", "v:a/b",
		"v:" + long + "x", "i:" + long + "x", "v:\u00e4", "v:a\x00", "u:a", "iv1", "va",
	} {
		fails(t, f, "worst "+word+" and", api.ErrForm)
		fails(t, f, "ratio v1 "+word, api.ErrForm)
		fails(t, f, "transfer v1 "+word+" r1", api.ErrForm)
		fails(t, f, "yield 0 1 2 "+word+" and", api.ErrForm)
		fails(t, f, "faults 0 0 0 and "+word+" 1 by", api.ErrForm)
	}
}

func TestP11_1Elements(t *testing.T) {
	long := strings.Repeat("x", api.MaxName)
	f := read(t, "v v1 a 0 1; v "+long+" b 0 2; r r.1_z a b 3")
	answers(t, f, "ratio v1 v:b", "num; den 1")
	answers(t, f, "ratio "+long+" v:b", "num 1; den 1")
	answers(t, f, "worst i:v1 and r.1_z 1 2 "+long+" 2 3", "worst 1/2 2 1 2")
	for _, word := range []string{"a", "b", "v", "v11", "r", "r.1", "r.1_", "and", "by", "dc", "x", long[1:], "text"} {
		fails(t, f, "ratio "+word+" v:b", api.ErrNone)
		fails(t, f, "transfer v1 v:b "+word, api.ErrNone)
		fails(t, f, "worst v:b and "+word+" 1 2", api.ErrNone)
		fails(t, f, "yield 0 1 2 v:b and "+word+" 1 2", api.ErrNone)
		fails(t, f, "faults 0 0 0 and v:b 1 by "+word+" 1 2", api.ErrNone)
	}
	for _, word := range []string{"V1", "1", "0", "9a", ".a", "_a", "v:1", "i:v1", "v1:", "v-1", long + "x", "\u00e4", "v1\x00", "v1,", "(", ")..", "*", "{"} {
		fails(t, f, "ratio "+word+" v:b", api.ErrForm)
		fails(t, f, "transfer v1 v:b "+word, api.ErrForm)
		fails(t, f, "worst v:b and "+word+" 1 2", api.ErrForm)
		fails(t, f, "yield 0 1 2 v:b and "+word+" 1 2", api.ErrForm)
		fails(t, f, "faults 0 0 0 and v:b 1 by "+word+" 1 2", api.ErrForm)
	}
}

// The error of a line that comes first, of those in its form, its numbers, its names, how many words it has, and what is called.
func TestP11_1OrderOfErrors(t *testing.T) {
	f := read(t, divider)
	long := digits(401)
	for line, want := range map[string]api.Errno{
		"narrow 8 61 0 20 0 20 -20 x":                         api.ErrForm,
		"narrow 8 61 0 20 0 20 " + long:                       api.ErrLong,
		"narrow 8 61 0 20 0 20 -20":                           api.ErrArg,
		"narrow 8 61 0 20 0 20 -20 0":                         api.ErrRange,
		"narrow 8 61 20 0 0 20 -20 0 1":                       api.ErrArg,
		"points 8 0 " + long + " 0 x":                         api.ErrForm,
		"points 8 0 " + long + " 0":                           api.ErrLong,
		"points 8 0 0":                                        api.ErrArg,
		"stable " + long + " x":                               api.ErrForm,
		"stable " + long:                                      api.ErrLong,
		"wave 0 0 -1 0 " + long + " x":                        api.ErrForm,
		"wave 0 0 -1 0 " + long:                               api.ErrLong,
		"wave 0 0 -1 0 1":                                     api.ErrArg,
		"wave 0 0 -1 0 1 2 3":                                 api.ErrRange,
		"enclose 0 0 0 1 " + long:                             api.ErrLong,
		"enclose 0 0 0 1 2":                                   api.ErrArg,
		"enclose 0 0 0 2 1 2 1 2 1":                           161,
		"ratio r9 v:0":                                        api.ErrForm,
		"ratio r9 v:b":                                        api.ErrNone,
		"ratio r1 v:9":                                        api.ErrNone,
		"ratio r1 v:b":                                        api.ErrRange,
		"transfer r9 v:b 1":                                   api.ErrForm,
		"transfer r1 v:b r9":                                  api.ErrNone,
		"worst v:9 and r9 " + long + " 1 1":                   api.ErrForm,
		"worst v:9 and r9 1 1 r1 1 " + long:                   api.ErrLong,
		"worst v:9 and r1 2 1":                                api.ErrNone,
		"worst v:b and r1 2 1 r9 1 1":                         api.ErrNone,
		"worst v:b and r1 2 1":                                api.ErrRange,
		"yield 99 2 1 v:9 and r1 2 " + long + " r1 1":         api.ErrForm,
		"yield 99 2 1 v:9 and r1 2 " + long:                   api.ErrLong,
		"yield 99 " + long + " 1 v:9 and":                     api.ErrLong,
		"yield 99 2 1 v:b and r9 1 1":                         api.ErrNone,
		"yield 99 2 1 v:b and r1 1 1":                         api.ErrRange,
		"faults -1 0 0 and v:9 1 by r1 1 2 r2 " + long:        api.ErrForm,
		"faults -1 0 0 and v:9 1 by r1 1 2 r2 1 " + long:      api.ErrLong,
		"faults " + long + " 0 0 and v:9 1 by r1 1 2 r2 1 2":  api.ErrLong,
		"faults -1 0 0 and v:9 " + long + " by r1 1 2 r2 1 2": api.ErrLong,
		"faults -1 0 0 and v:b 1 by r1 1 2 r9 1 2":            api.ErrNone,
		"faults -1 0 0 and v:9 1 by r1 1 2 r2 1 2":            api.ErrNone,
		"faults -1 0 0 and v:b 1 by r1 1 2 r2 1 2":            api.ErrRange,
		"ladder 0 0 " + long + " x":                           api.ErrForm,
		"ladder 0 0 -1 0 " + long:                             api.ErrLong,
		"ladder 0 0 -1 0 1":                                   180,
		"ladder 0 0 0":                                        api.ErrZero,
		"ladder 0 0 1 1":                                      api.ErrRange,
		"x " + long:                                           api.ErrForm,
		"worst v:0 and r9 1 1":                                api.ErrForm,
		"worst i:r1 and":                                      api.ErrNone,
	} {
		fails(t, f, line, want)
		if got, e := oracle(f, line); len(got) > 0 || e != want {
			t.Errorf("the oracle says %q, %d of %.100q", got, e, line)
		}
	}
}
