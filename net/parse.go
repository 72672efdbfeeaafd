package net

import (
	"strings"

	"pentode/api"
)

// Parse reads a text.
func Parse(text string) (f api.NtFile, line int, e api.Errno) {
	if len(text) > api.MaxNetText {
		return api.NtFile{}, 0, api.ErrLong
	}
	if text != "" && !strings.HasSuffix(text, "\n") {
		return api.NtFile{}, 0, api.ErrForm
	}
	// behind the last line there is nothing
	lines := strings.Split(text, "\n")
	lines = lines[:len(lines)-1]
	r := reader{places: []place{{}}}
	if line, e := r.read(lines); e != api.OK {
		return api.NtFile{}, line, e
	}
	f, e = r.file()
	if e != api.OK {
		return api.NtFile{}, len(lines) + 1, e
	}
	return f, 0, api.OK
}

// file evaluates and lays out what was read.
func (r *reader) file() (api.NtFile, api.Errno) {
	l := layout{places: r.places, nodes: map[string]int{}, elems: map[string]int{}}
	if e := l.allModels(r.models); e != api.OK {
		return api.NtFile{}, e
	}
	if e := l.allItems(); e != api.OK {
		return api.NtFile{}, e
	}
	if e := l.refer(); e != api.OK {
		return api.NtFile{}, e
	}
	l.file.Net.Nodes = len(l.file.Nodes)
	if _, _, e := Check(l.file.Net); e != api.OK {
		return api.NtFile{}, e
	}
	return l.file, api.OK
}
