package desk

import (
	"slices"

	"pentode/api"
	"pentode/net"
	"pentode/points"
	"pentode/value"
)

// circuit is a file that is in order, and its unknowns as words.
type circuit struct {
	api.NtFile
	unknowns []string
}

// circuitOf is the circuit of a file, or the error of it.
func circuitOf(f api.NtFile) (circuit, api.Errno) {
	is, e := net.Order(f)
	switch {
	case e != api.OK:
		return circuit{}, e
	case !is:
		return circuit{}, api.ErrForm
	}
	if _, e := points.Size(f.Net); e != api.OK {
		return circuit{}, e
	}
	own, e := net.Unknowns(f.Net)
	if e != api.OK {
		return circuit{}, e
	}
	c := circuit{NtFile: f}
	for _, node := range f.Nodes {
		c.unknowns = append(c.unknowns, "v:"+node)
	}
	for _, elem := range own {
		c.unknowns = append(c.unknowns, "i:"+f.Elems[elem])
	}
	return c, api.OK
}

// asked is what the words of a line say: numbers of all its kinds, each in the order of the words.
type asked struct {
	circuit
	nums        []value.Num
	ints        []int
	outs, elems []int // the numbers of unknowns and of elements
}

// resolve looks at what words name, and how many there are. It leaves a line in which this is wrong.
func (c circuit) resolve(w words) asked {
	must(w.late)
	a := asked{circuit: c, nums: w.nums, ints: w.ints}
	for _, word := range w.outs {
		a.outs = append(a.outs, find(c.unknowns, word))
	}
	for _, word := range w.elems {
		a.elems = append(a.elems, find(c.Elems, word))
	}
	if w.each > 0 && len(w.nums)-w.fixed != w.each*len(c.unknowns) {
		must(api.ErrArg)
	}
	return a
}

// find is the place of a word among some others. It leaves a line that has another word.
func find(list []string, word string) int {
	at := slices.Index(list, word)
	if at < 0 {
		must(api.ErrNone)
	}
	return at
}
