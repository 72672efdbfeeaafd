package net_test

import (
	"math/big"
	"slices"
	"strconv"
	"strings"
	"testing"

	"pentode/api"
	"pentode/net"
)

// part is a place of a random text: elements and instances, and of a subcircuit its ports and parameters.
type part struct {
	name   string
	ports  []string
	params []string
	preset []string
	items  []entry
}

// entry is an element, or an instance of a part if this is not nil.
type entry struct {
	word, name string
	nodes      []string
	ref        string
	of         *part
	val        string   // of an element
	given      []string // for each parameter, or empty
}

// place makes a part that may have instances of those before it.
func (g *numbers) place(name string, before []*part) *part {
	p := &part{name: name}
	nodes := []string{"0", "m", "n", "1"}
	if name != "" {
		for i := range 1 + g.below(3) {
			p.ports = append(p.ports, "p"+strconv.Itoa(i))
		}
		for i := range g.below(3) {
			p.params = append(p.params, "k"+strconv.Itoa(i))
			p.preset = append(p.preset, string(g.above()))
		}
		nodes = append(nodes, p.ports...)
	}
	node := func() string { return nodes[g.below(len(nodes))] }
	for i := range 1 + g.below(4) {
		e := entry{name: "e" + strconv.Itoa(i)}
		if len(before) > 0 && g.below(2) == 0 {
			e.of = before[g.below(len(before))]
			for range e.of.ports {
				e.nodes = append(e.nodes, node())
			}
			for range e.of.params {
				val := ""
				if g.below(2) == 0 {
					val = g.choice(p.params)
				}
				e.given = append(e.given, val)
			}
		} else {
			e.word = []string{"r", "c", "v", "e", "f"}[g.below(5)]
			e.nodes = []string{node(), node()}
			switch e.word {
			case "e":
				e.nodes = append(e.nodes, node(), node())
			case "f":
				e.ref = "src"
			}
			e.val = g.choice(p.params)
		}
		p.items = append(p.items, e)
	}
	at := g.below(len(p.items) + 1)
	p.items = slices.Insert(p.items, at, entry{word: "v", name: "src", nodes: []string{node(), node()}, val: "1"})
	return p
}

// choice is a value above 0: a number, a parameter, or a product of both.
func (g *numbers) choice(params []string) string {
	number := string(g.above())
	if len(params) == 0 || g.below(3) == 0 {
		return number
	}
	param := params[g.below(len(params))]
	if g.below(2) == 0 {
		return param
	}
	return "{ " + number + " * " + param + " }"
}

// write writes the lines of a part.
func (p *part) write() []string {
	var list []string
	if p.name != "" {
		head := "sub " + p.name + " " + strings.Join(p.ports, " ")
		for i, k := range p.params {
			if i == 0 {
				head += " with"
			}
			head += " " + k + " " + p.preset[i]
		}
		list = append(list, head)
	}
	for _, e := range p.items {
		list = append(list, e.write())
	}
	if p.name != "" {
		list = append(list, "ends")
	}
	return list
}

func (e entry) write() string {
	words := slices.Concat([]string{"x", e.name}, e.nodes)
	if e.of == nil {
		words[0] = e.word
		if e.ref != "" {
			words = append(words, e.ref)
		}
		return strings.Join(append(words, e.val), " ")
	}
	words = append(words, e.of.name)
	with := false
	for i := len(e.given) - 1; i >= 0; i-- {
		if e.given[i] == "" {
			continue
		}
		if !with {
			words = append(words, "with")
			with = true
		}
		words = append(words, e.of.params[i], e.given[i])
	}
	return strings.Join(words, " ")
}

// number is a value of an entry as a number.
func number(t *testing.T, val string, params map[string]*big.Rat) *big.Rat {
	product := big.NewRat(1, 1)
	for _, word := range strings.Fields(val) {
		if x, is := params[word]; is {
			product.Mul(product, x)
		} else if !strings.Contains("{*}", word) {
			product.Mul(product, rat(t, api.Val(word)))
		}
	}
	return product
}

// flatten returns the lines that a part gives, whose names begin with a word, with the nodes of its ports and its parameters.
func (p *part) flatten(t *testing.T, before string, ports map[string]string, params map[string]*big.Rat) []string {
	var list []string
	for _, e := range p.items {
		var nodes []string
		for _, node := range e.nodes {
			outer, is := ports[node]
			switch {
			case is:
				nodes = append(nodes, outer)
			case node == "0":
				nodes = append(nodes, "0")
			default:
				nodes = append(nodes, before+node)
			}
		}
		if e.of == nil {
			words := slices.Concat([]string{e.word, before + e.name}, nodes)
			if e.ref != "" {
				words = append(words, before+e.ref)
			}
			list = append(list, strings.Join(append(words, string(valOf(number(t, e.val, params)))), " "))
			continue
		}
		inPorts, inParams := map[string]string{}, map[string]*big.Rat{}
		for i, port := range e.of.ports {
			inPorts[port] = nodes[i]
		}
		for i, k := range e.of.params {
			inParams[k] = number(t, e.of.preset[i], nil)
			if e.given[i] != "" {
				inParams[k] = number(t, e.given[i], params)
			}
		}
		list = append(list, e.of.flatten(t, before+e.name+".", inPorts, inParams)...)
	}
	return list
}

// The layout of random texts is the one of the test's own definition of it.
func TestP3_6RandomLayouts(t *testing.T) {
	g := newNumbers()
	right := 0
	for range 2000 {
		var subs []*part
		var text []string
		for i := range g.below(4) {
			subs = append(subs, g.place("s"+strconv.Itoa(i), subs))
			text = append(text, subs[i].write()...)
		}
		top := g.place("", subs)
		text = append(text, top.write()...)
		want := top.flatten(t, "", nil, nil)
		f, line, e := net.Parse(lines(text...))
		if len(want) > api.MaxElems {
			if line != len(text)+1 || e != api.ErrLong {
				t.Fatalf("Parse of %q = %d, %d", text, line, e)
			}
			continue
		}
		nodes := map[string]bool{}
		for _, l := range want {
			words := strings.Fields(l)
			count := 2
			if words[0] == "e" {
				count = 4
			}
			for _, node := range words[2 : 2+count] {
				nodes[node] = true
			}
		}
		delete(nodes, "0")
		if len(nodes) > api.MaxNodes {
			if line != len(text)+1 || e != api.ErrLong {
				t.Fatalf("Parse of %q = %d, %d", text, line, e)
			}
			continue
		}
		right++
		s, _ := net.Print(f)
		if e != api.OK || s != lines(want...) {
			t.Fatalf("Parse of %q = %d, %d:\n%s\nnot\n%s", text, line, e, s, lines(want...))
		}
		back(t, f)
	}
	if right < 500 {
		t.Errorf("only %d right texts", right)
	}
}
