package net

import (
	"strings"

	"pentode/api"
	"pentode/value"
)

// layout is a file that grows, with the numbers of its nodes and elements by their names.
type layout struct {
	places []place
	file   api.NtFile
	nodes  map[string]int
	elems  map[string]int
	refs   []string // for each element the name of the one that it refers to
	insts  int
}

// scope is what names mean in an instance: what is before them, the nodes of the ports, and the parameters. Outside of subcircuits all is empty.
type scope struct {
	level  int
	before string
	ports  map[string]string
	params map[string]value.Num
}

// node returns the name that a node has in the file.
func (s scope) node(name string) string {
	if name == "0" {
		return name
	}
	if outer, is := s.ports[name]; is {
		return outer
	}
	return s.before + name
}

func (l *layout) allModels(list []model) api.Errno {
	for _, m := range list {
		made, e := m.evaluate()
		if e != api.OK {
			return e
		}
		l.file.Net.Models = append(l.file.Net.Models, made)
		l.file.Models = append(l.file.Models, strings.Clone(m.name))
	}
	return api.OK
}

// evaluate returns a model with its numbers, which are evaluated in the order of its line.
func (m model) evaluate() (made api.Model, e api.Errno) {
	text := func(x expr) api.Val {
		if e != api.OK {
			return ""
		}
		var n value.Num
		n, e = evaluate(x, nil)
		return value.Text(n)
	}
	made.Kind = m.kind
	if m.kind == api.MdSquare {
		made.Kp = text(m.kp)
		made.Vt = text(m.vt)
	}
	for k, from := range m.pieces {
		if k > 0 {
			made.Breaks = append(made.Breaks, text(m.breaks[k-1]))
		}
		var piece []api.Val
		for _, x := range from {
			piece = append(piece, text(x))
		}
		made.Pieces = append(made.Pieces, piece)
	}
	return made, e
}

// allItems lays out all elements, those of instances in their places.
func (l *layout) allItems() api.Errno {
	var lay func(p place, in scope) api.Errno
	lay = func(p place, in scope) api.Errno {
		for _, it := range p.items {
			if it.kind != 0 {
				if e := l.element(it, in); e != api.OK {
					return e
				}
				continue
			}
			inner, e := l.enter(it, in)
			if e != api.OK {
				return e
			}
			if e := lay(l.places[it.sub], inner); e != api.OK {
				return e
			}
		}
		return api.OK
	}
	return lay(l.places[0], scope{})
}

// enter returns the scope in an instance.
func (l *layout) enter(it item, in scope) (scope, api.Errno) {
	if in.level == api.MaxDepth || l.insts == api.MaxInsts {
		return scope{}, api.ErrLong
	}
	l.insts++
	sub := l.places[it.sub]
	inner := scope{in.level + 1, in.before + it.name + ".", map[string]string{}, map[string]value.Num{}}
	for i, port := range sub.ports {
		inner.ports[port] = in.node(it.nodes[i])
	}
	given := map[string]expr{}
	for _, s := range it.given {
		given[s.name] = s.val
	}
	for _, s := range sub.params {
		x, is := given[s.name]
		if !is {
			x = s.val
		}
		n, e := evaluate(x, in.params)
		if e != api.OK {
			return scope{}, e
		}
		inner.params[s.name] = n
	}
	return inner, api.OK
}

// element adds an element to the file. Its name is a copy, as a part of the text would keep all of this in memory.
func (l *layout) element(it item, in scope) api.Errno {
	f := &l.file
	name := strings.Clone(in.before + it.name)
	if len(f.Elems) == api.MaxElems || len(name) > api.MaxName {
		return api.ErrLong
	}
	if _, is := l.elems[name]; is {
		return ErrTwice
	}
	l.elems[name] = len(f.Elems)
	made := api.Elem{Kind: it.kind, Model: it.model}
	var nodes []int
	for _, node := range it.nodes {
		number, e := l.node(in.node(node))
		if e != api.OK {
			return e
		}
		nodes = append(nodes, number)
	}
	setNodes(&made, nodes)
	if it.on {
		made.Ref = 1
	}
	if it.val != nil {
		n, e := evaluate(it.val, in.params)
		if e != api.OK {
			return e
		}
		made.Val = value.Text(n)
	}
	f.Net.Elems = append(f.Net.Elems, made)
	f.Elems = append(f.Elems, name)
	l.refs = append(l.refs, in.before+it.ref)
	return api.OK
}

// node returns the number of a node, which may be a new one.
func (l *layout) node(name string) (int, api.Errno) {
	if name == "0" {
		return 0, api.OK
	}
	if number, is := l.nodes[name]; is {
		return number, api.OK
	}
	f := &l.file
	if len(name) > api.MaxName || len(f.Nodes) == api.MaxNodes {
		return 0, api.ErrLong
	}
	f.Nodes = append(f.Nodes, strings.Clone(name))
	l.nodes[name] = len(f.Nodes)
	return len(f.Nodes), api.OK
}

// refer sets what elements refer to, also to later ones.
func (l *layout) refer() api.Errno {
	elems := l.file.Net.Elems
	for i := range elems {
		if shapes[elems[i].Kind].ref != elemRef {
			continue
		}
		number, is := l.elems[l.refs[i]]
		if !is {
			return ErrName
		}
		elems[i].Ref = number
	}
	return api.OK
}
