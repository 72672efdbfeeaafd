package net

import (
	"slices"

	"pentode/api"
)

// model is a model as its line says it. Of a curve it has the pieces, and the breaks between them; of the square law Kp and Vt.
type model struct {
	name   string
	kind   int
	pieces [][]expr
	breaks []expr
	kp, vt expr
}

// setting is a parameter and what it is.
type setting struct {
	name string
	val  expr
}

// item is an element or an instance as its line says it.
type item struct {
	name  string
	nodes []string
	kind  int // of an element; 0 is an instance
	ref   string
	on    bool
	model int
	val   expr
	sub   int // the place of an instance's subcircuit
	given []setting
}

// place is where elements and instances stand: outside of subcircuits, or in one of them, which has a name, ports and parameters.
type place struct {
	name   string
	ports  []string
	params []setting
	items  []item
}

// reader has what was read up to a line. The first place is outside; the last one is that of a subcircuit that has not ended, if inside is true.
type reader struct {
	models []model
	places []place
	inside bool
}

// methods returns what reads a line, by its first word.
func methods() map[string]func(*reader, *words) api.Errno {
	by := map[string]func(*reader, *words) api.Errno{
		"model": (*reader).model,
		"sub":   (*reader).sub,
		"ends":  (*reader).ends,
		"x":     (*reader).instance,
	}
	for kind := range shapes {
		if isKind(kind) {
			by[shapes[kind].word] = (*reader).element
		}
	}
	return by
}

// read reads lines. With an error it returns the number of the line.
func (r *reader) read(lines []string) (line int, e api.Errno) {
	by := methods()
	for i, text := range lines {
		w := split(text)
		if w == nil {
			continue
		}
		method := by[w.first]
		if method == nil {
			return i + 1, api.ErrForm
		}
		if e := method(r, w); e != api.OK {
			return i + 1, e
		}
	}
	if r.inside {
		return len(lines) + 1, ErrPlace
	}
	return 0, api.OK
}

// here returns the place in which a line stands.
func (r *reader) here() *place {
	if r.inside {
		return &r.places[len(r.places)-1]
	}
	return &r.places[0]
}

func (r *reader) model(w *words) api.Errno {
	w.fixed = true
	m := model{name: w.name(), kind: api.MdCurve}
	if w.want("curve", "square") == "square" {
		m.kind = api.MdSquare
		m.kp, m.vt = w.value(), w.value()
	} else {
		m.pieces = append(m.pieces, w.piece())
		for w.more() {
			w.want("|")
			m.breaks = append(m.breaks, w.value())
			w.want("|")
			m.pieces = append(m.pieces, w.piece())
		}
	}
	if e := w.end(); e != api.OK {
		return e
	}
	switch {
	case r.inside:
		return ErrPlace
	case r.modelAt(m.name) >= 0:
		return ErrTwice
	case len(r.models) == api.MaxModels:
		return api.ErrLong
	}
	r.models = append(r.models, m)
	return api.OK
}

// modelAt returns the number of the model with a name, or -1.
func (r *reader) modelAt(name string) int {
	return slices.IndexFunc(r.models, func(m model) bool { return m.name == name })
}

func (r *reader) sub(w *words) api.Errno {
	w.fixed = true
	p := place{name: w.name()}
	ports := w.until("with")
	p.ports = ports.nodes()
	w.must(!ports.bad && len(p.ports) <= api.MaxNodes && !slices.Contains(p.ports, "0"))
	p.params = w.settings()
	if e := w.end(); e != api.OK {
		return e
	}
	switch {
	case r.inside:
		return ErrPlace
	case r.subAt(p.name) > 0 || hasTwice(p.ports) || hasTwice(names(p.params)):
		return ErrTwice
	case len(r.places) > api.MaxSubs || len(p.params) > api.MaxParams:
		return api.ErrLong
	}
	r.places = append(r.places, p)
	r.inside = true
	return api.OK
}

func names(list []setting) []string {
	var all []string
	for _, s := range list {
		all = append(all, s.name)
	}
	return all
}

// subAt returns the place of the subcircuit with a name that has ended, or 0.
func (r *reader) subAt(name string) int {
	for i, p := range r.places {
		if i > 0 && p.name == name && !(r.inside && i == len(r.places)-1) {
			return i
		}
	}
	return 0
}

func hasTwice(list []string) bool {
	for i, word := range list {
		if slices.Contains(list[:i], word) {
			return true
		}
	}
	return false
}

func (r *reader) ends(w *words) api.Errno {
	if e := w.end(); e != api.OK {
		return e
	}
	if !r.inside {
		return ErrPlace
	}
	r.inside = false
	return api.OK
}

func (r *reader) element(w *words) api.Errno {
	it := item{kind: kindOf(w.first), name: w.name()}
	s := shapes[it.kind]
	for range s.nodes {
		it.nodes = append(it.nodes, w.node())
	}
	switch s.ref {
	case elemRef:
		it.ref = w.name()
	case stateRef:
		it.on = w.want("on", "off") == "on"
	}
	of := ""
	if s.model != 0 {
		of = w.name()
	}
	if s.val != noVal {
		it.val = w.value()
	}
	if e := w.end(); e != api.OK {
		return e
	}
	it.model = max(0, r.modelAt(of))
	isThere := s.model == 0 || r.modelAt(of) >= 0
	return r.add(it, isThere && r.knows(w.named), true)
}

// knows returns whether all names are those of parameters of the subcircuit that is read.
func (r *reader) knows(named []string) bool {
	return within(named, names(r.here().params))
}

func within(some, all []string) bool {
	return !slices.ContainsFunc(some, func(s string) bool { return !slices.Contains(all, s) })
}

func (r *reader) instance(w *words) api.Errno {
	it := item{name: w.name()}
	front := w.until("with")
	all := front.nodes()
	last := len(all) - 1
	it.nodes = all[:last]
	w.must(!front.bad && last > 0 && isName(all[last]))
	it.given = w.settings()
	if e := w.end(); e != api.OK {
		return e
	}
	if hasTwice(names(it.given)) {
		return ErrTwice
	}
	it.sub = r.subAt(all[last])
	sub := r.places[it.sub]
	isThere := it.sub > 0 && within(names(it.given), names(sub.params))
	return r.add(it, isThere && r.knows(w.named), len(it.nodes) == len(sub.ports))
}

// add puts an item into its place, if its name is new there, all that it names is there, it has as many nodes as it needs, and there is room.
func (r *reader) add(it item, isThere, fits bool) api.Errno {
	p := r.here()
	switch {
	case slices.ContainsFunc(p.items, func(other item) bool { return other.name == it.name }):
		return ErrTwice
	case !isThere:
		return ErrName
	case !fits:
		return api.ErrForm
	case len(p.items) == api.MaxElems:
		return api.ErrLong
	}
	p.items = append(p.items, it)
	return api.OK
}
