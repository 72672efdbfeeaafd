package desk_test

import (
	"fmt"
	"strings"
	"testing"

	"pentode/api"
	"pentode/desk"
	"pentode/filter"
	"pentode/net"
	"pentode/points"
	"pentode/wave"
)

// What is expected here is told by the chapters, or computed by hand.
func TestP11_1Graphs(t *testing.T) {
	two := read(t, doubled)
	answers(t, two, "text", doubled)
	answers(t, two, "unknowns", "unknowns v:a v:b v:c i:v1 i:v2 i:l1 i:l2")
	answers(t, two, "loop", "loop v1 v2")
	answers(t, two, "loop dc", "loop v1 v2")
	answers(t, two, "cut dc", "cut b")
	coils := read(t, "l l1 a b 2; r r1 a 0 1; l l2 b a 2; c c1 c d 1; c c2 c 0 1; i i1 d e 1")
	fails(t, coils, "loop", api.ErrNone)
	answers(t, coils, "loop dc", "loop l1 l2")
	answers(t, coils, "cut", "cut e")
	answers(t, coils, "cut dc", "cut c")
	answers(t, read(t, "r r1 x y 1; r r2 z y 1; r r3 w 0 1"), "cut", "cut x y z")
	fails(t, read(t, single), "cut", api.ErrNone)
	answers(t, read(t, ""), "text", "")
	answers(t, read(t, ""), "unknowns", "unknowns")
	answers(t, read(t, mixed), "text", mixed)
	answers(t, read(t, mixed), "unknowns", "unknowns v:g v:d i:v1")
}

func TestP11_1Points(t *testing.T) {
	three := read(t, latch)
	answers(t, three, "exact", "point 5/6; point 3/2; point 13/6")
	answers(t, read(t, ""), "exact", "point")
	fails(t, read(t, "v v1 a 0 1; v v2 a 0 1"), "exact", api.ErrSingular)
	fails(t, read(t, mixed), "exact", api.ErrForm)
	answers(t, read(t, single), "points 8 5 0 3", "points 1; box 0 3")
	answers(t, read(t, single), "points 8 5 2 3", "points 0")
	answers(t, read(t, ""), "points 8 5", "points 1; box")
	fails(t, three, "points 12 1 0 3", points.ErrMore)
	fails(t, three, "points 12 60 3 0", api.ErrRange)
	fails(t, three, "points 3 60 0 3", api.ErrRange)
	answers(t, read(t, single), "narrow 8 1 0 3", "box 1 1")
	answers(t, read(t, single), "narrow 8 0 0 3", "box 0 3")
	answers(t, three, "narrow 40 10 23/16 25/16", "box 3/2 3/2")
	fails(t, read(t, single), "narrow 8 1 2 3", points.ErrFault)
	fails(t, read(t, single), "narrow 8 61 0 3", api.ErrRange)
	answers(t, three, "stable 3/2", "stable 1 0")
	answers(t, three, "stable 1/2", "stable 0 0")
	fails(t, three, "stable 1", points.ErrEdge)
	answers(t, read(t, "l l1 a 0 1; c c1 a 0 1"), "stable 0 0", "stable 0 2")
}

func TestP11_1Symbols(t *testing.T) {
	rc, apart := read(t, ladder2), read(t, divider+"; i i1 0 c 1; r r3 c 0 1")
	twice := read(t, "v v1 a 0 1; v v2 a 0 1")
	answers(t, read(t, decay), "char", "char 1 1")
	answers(t, rc, "char", "char -1/2 -3")
	answers(t, twice, "char", "char")
	fails(t, read(t, latch), "char", api.ErrForm)
	answers(t, rc, "ratio v1 v:2", "num -1/2; den -1/2 -3")
	answers(t, rc, "ratio v1 v:1", "num -1/2 -3; den -1/2 -3")
	answers(t, rc, "ratio v1 i:v1", "num 0 3/2; den -1/2 -3")
	answers(t, apart, "ratio i1 v:b", "num; den -3/2")
	fails(t, rc, "ratio r1 v:2", api.ErrRange)
	fails(t, twice, "ratio v1 v:a", api.ErrSingular)
	answers(t, rc, "transfer v1 v:2", "num -1/2 0; den -1/2 0; den -3 1")
	answers(t, rc, "transfer v1 v:2 c1", "num -1/2 0 0; den -1/2 0 0; den -1 1 1")
	answers(t, rc, "transfer v1 v:2 c1 r1", "num -1 0 0 1; den -1 0 0 1; den -1 1 1 0")
	answers(t, apart, "transfer i1 v:b r3", "den -3/2 0 1")
	fails(t, rc, "transfer r1 v:2", api.ErrRange)
	fails(t, rc, "transfer v1 v:2 v1", api.ErrRange)
	fails(t, rc, "transfer v1 v:2 r1 r1", api.ErrArg)
}

func TestP11_1Waves(t *testing.T) {
	rc := read(t, decay)
	answers(t, rc, "wave 1 3 0 20 1", "at 1 1/2; at 2 1/4; at 3 1/8")
	answers(t, rc, "wave 1 5/2 1/1000 10 1", "at 1 1/2; at 2 1/4; at 5/2 341/2048")
	answers(t, read(t, ladder2), "wave 6 12 0 20 5 0 0", "at 6 5 5/2 -5/4; at 12 5 15/4 -5/8")
	fails(t, rc, "wave 1 201 1 20 0", api.ErrLong)
	fails(t, rc, "wave 0 1 0 20 1", api.ErrRange)
	fails(t, rc, "wave 1 0 0 20 1", api.ErrRange)
	fails(t, rc, "wave 1 1 -1 20 1", api.ErrRange)
	fails(t, rc, "wave 1 1 0 3 1", api.ErrRange)
	fails(t, rc, "wave 1 1/2 0 20 1", wave.ErrStep)
	answers(t, read(t, charge), "enclose 1 2 20 0 0", "box 1/2 1/2; box 1 1")
	answers(t, rc, "enclose 1/8 1 20 1 1", "box 903/1024 113/128")
	fails(t, rc, "enclose 0 1 20 1 1", api.ErrRange)
	fails(t, rc, "enclose 1 21 20 1 1", api.ErrRange)
	fails(t, rc, "enclose 1 1 3 1 1", api.ErrRange)
	fails(t, rc, "enclose 1 1 20 2 1", api.ErrRange)
	fails(t, read(t, ladder2), "enclose 1 1 20 0 1 0 1 0 1", wave.ErrKind)
}

func TestP11_1Tolerances(t *testing.T) {
	v := read(t, divider)
	answers(t, v, "worst v:b and", "worst 4 4 0 0")
	answers(t, v, "worst i:v1 and r2 1 2", "worst -4 -3 0 1")
	answers(t, v, "worst v:b and r1 1 3 r2 1/2 3/2", "worst 12/7 36/5 1 2")
	answers(t, v, "worst v:b and r2 1/2 3/2 r1 1 3", "worst 12/7 36/5 2 1")
	fails(t, v, "worst v:b and r1 0 1", api.ErrRange)
	fails(t, v, "worst v:b and r1 2 1", api.ErrRange)
	fails(t, v, "worst v:b and r1 1 2 r1 1 2", api.ErrArg)
	fails(t, read(t, tunnel), "worst v:2 and", api.ErrForm)
	fails(t, read(t, "r r1 a 0 1; g g1 a 0 a 0 1"), "worst v:a and g1 -2 0", api.ErrSingular)
	answers(t, v, "yield 0 1 8 v:b and r1 1 3 r2 1/2 3/2", "yield 1 1 1")
	answers(t, v, "yield 0 4 8 v:b and r1 1 3 r2 1/2 3/2", "yield 0 1 1")
	answers(t, v, "yield 1 3 12 v:b and r1 1 5", "yield 1/2 1 2")
	fails(t, v, "yield 61 1 8 v:b and r1 1 3", api.ErrRange)
	fails(t, v, "yield -1 1 8 v:b and r1 1 3", api.ErrRange)
	fails(t, v, "yield 0 8 1 v:b and r1 1 3", api.ErrRange)
}

func TestP11_1Faults(t *testing.T) {
	v := read(t, divider)
	both := " by r1 100 1000 r2 1/100 1/10"
	answers(t, v, "faults 1/10 0 0 and v:b 4 i:v1 -4"+both, "faults 0")
	answers(t, v, "faults 1/10 0 0 and v:b 0"+both, "faults 1 2")
	answers(t, v, "faults 1/50 0 0 and v:b 0"+both, "faults 1")
	answers(t, v, "faults 1/100 0 0 and v:b 0"+both, "faults")
	answers(t, v, "faults 0 1/10 0 and i:v1 -6 v:b 1/2 by r2 1/100 1/10 r1 100 1000", "faults 1")
	answers(t, v, "faults 0 1/10 0 and i:v1 -6 v:b 1/2"+both, "faults 2")
	answers(t, v, "faults 0 0 1 and v:b 7/2 by", "faults 0")
	answers(t, v, "faults 0 0 1 and v:b 3 by", "faults")
	// Each of Outs has the meter, and no element has a tolerance of its own.
	answers(t, v, "faults 1/10 0 0 and i:v1 -41/10 v:a 121/10 v:b 39/10 by", "faults 0")
	answers(t, v, "faults 1/10 0 0 and i:v1 -4 v:a 12 v:b 31/8 by", "faults")
	fails(t, v, "faults 0 0 0 and by", api.ErrRange)
	fails(t, v, "faults 0 1 0 and v:b 4 by", api.ErrRange)
	fails(t, v, "faults 0 0 0 and v:b 4 v:b 4 by", api.ErrArg)
	fails(t, v, "faults 0 0 0 and v:b 4 by"+strings.Repeat(" r1 1 1", 21), api.ErrLong)
	fails(t, v, "faults 0 0 0 and v:b 4 by r1 2 1", api.ErrRange)
	fails(t, read(t, "r r1 a 0 1; g g1 a 0 a 0 1"), "faults 0 0 0 and v:a 0 by g1 -2 0", api.ErrSingular)
}

func TestP11_1Ladders(t *testing.T) {
	none := read(t, "")
	answers(t, none, "ladder 1 1 1 2 2 1", "v e1 n1 0 1; l e2 n1 n2 3/2; c e3 n2 0 4/3; l e4 n2 n3 1/2; r e5 n3 0 1")
	answers(t, none, "ladder 50 1000 15 15 6 1", "v e1 n1 0 1; l e2 n1 n2 1/24; c e3 n2 0 3/312500; l e4 n2 n3 1/120; r e5 n3 0 50")
	answers(t, none, "ladder 2 3 1 1", "v e1 n1 0 1; l e2 n1 n2 2/3; r e3 n2 0 2")
	answers(t, none, "ladder 2 3 1 1 0 0.0", "v e1 n1 0 1; l e2 n1 n2 2/3; r e3 n2 0 2")
	answers(t, none, "ladder 2 3 1 1"+strings.Repeat(" 0", 100), "v e1 n1 0 1; l e2 n1 n2 2/3; r e3 n2 0 2")
	fails(t, none, "ladder 2 3 1 1"+strings.Repeat(" 0", 39)+" 1", api.ErrLong)
	fails(t, none, "ladder 1 1 -1 0 1", filter.ErrHurwitz)
	fails(t, none, "ladder 1 1", api.ErrZero)
	fails(t, none, "ladder 1 1 0 0", api.ErrZero)
	fails(t, none, "ladder 1 1 5", api.ErrRange)
	fails(t, none, "ladder 0 1 1 1", api.ErrRange)
	fails(t, none, "ladder 1 -1 1 1", api.ErrRange)
	fails(t, none, "ladder 0 -1 1 0 1", filter.ErrHurwitz)
	fails(t, none, "ladder 1 1 1 11 55 165 330 462 462 330 165 55 11 1", api.ErrRange)
	fails(t, none, "ladder 1/"+digits(1000)+" "+digits(400)+" 1 1", api.ErrLong)
}

// longFile is a file whose text has so many bytes, from 30000 to 30009.
func longFile(bytes int) api.NtFile {
	f := api.NtFile{Net: api.Net{Nodes: 1}, Nodes: []string{"a"}}
	for i := range 40 {
		name := fmt.Sprintf("e%02d", i)
		f.Elems = append(f.Elems, name)
		val := digits(750 - len("r e00 a 0 ") - 1)
		if i == 39 {
			val = digits(len(val) + bytes - 30000)
		}
		f.Net.Elems = append(f.Net.Elems, api.Elem{Kind: api.ElR, A: 1, Val: api.Val(val)})
	}
	return f
}

func TestP11_1LongTexts(t *testing.T) {
	f := longFile(api.MaxNetText)
	s, e := net.Print(f)
	if len(s) != api.MaxNetText || e != api.OK {
		t.Fatalf("Print = %d bytes, error %d", len(s), e)
	}
	answers(t, f, "text", strings.ReplaceAll(strings.TrimSuffix(s, "\n"), "\n", "; "))
	fails(t, longFile(api.MaxNetText+1), "text", api.ErrLong)
	answers(t, longFile(api.MaxNetText+1), "unknowns", "unknowns v:a")
}

// Numbers are handed on as texts of what was read, and written as such texts.
func TestP11_1Numbers(t *testing.T) {
	one, rc, v := read(t, single), read(t, decay), read(t, divider)
	answers(t, one, "points 8 5 0.0 3000m", "points 1; box 0 3")
	answers(t, one, "narrow 8 0 -0 0.003k", "box 0 3")
	answers(t, rc, "wave 1000m 0.002k 0u 20 1.0", "at 1 1/2; at 2 1/4")
	answers(t, rc, "wave 1 1 100m 20 01", "at 1 1/2")
	answers(t, rc, "enclose 125m 1 20 1.0 01", "box 903/1024 113/128")
	answers(t, v, "worst v:b and r1 1.0 3000m r2 0.5 1.5", "worst 12/7 36/5 1 2")
	answers(t, v, "yield 1 3.0 0.012k v:b and r1 1000m 5", "yield 1/2 1 2")
	answers(t, v, "faults 100m 0.0 0u and v:b 0.004k i:v1 -4000m by r1 0.1k 1k r2 10m 100m", "faults 0")
	answers(t, read(t, latch), "stable 1.5", "stable 1 0")
	answers(t, read(t, ""), "ladder 0.05k 1k 15 015 6.0 1000m", "v e1 n1 0 1; l e2 n1 n2 1/24; c e3 n2 0 3/312500; l e4 n2 n3 1/120; r e5 n3 0 50")
	// A number may have more digits than one that is read in one piece, if it is a fraction, or has a prefix.
	answers(t, one, "narrow 8 0 -"+digits(1000)+"/3 "+digits(400)+"T", "box -"+digits(1000)+"/3 "+digits(412))
}

// Nodes and elements may have the words of the table as their names.
func TestP11_1WordsAsNames(t *testing.T) {
	f := read(t, names)
	answers(t, f, "unknowns", "unknowns v:and v:dc i:and")
	answers(t, f, "worst v:dc and by 1 2 dc 1 2", "worst 2 4 1 2")
	answers(t, f, "worst i:and and and 6 12 by 2 2", "worst -4 -2 1 0")
	answers(t, f, "faults 0 0 0 and v:and 6 v:dc 2 by by 3 4 and 5 5", "faults 0")
	answers(t, f, "faults 0 0 0 and v:and 6 v:dc 3/2 by by 3 4 and 5 5", "faults 1")
	answers(t, f, "transfer and v:dc by dc", "num -1 0 1 0; den -1 0 0 1; den -1 0 1 0")
	if got, e := desk.Line(f, "loop dc dc"); len(got) > 0 || e != api.ErrForm {
		t.Errorf("loop dc dc = %q, %d", got, e)
	}
}
