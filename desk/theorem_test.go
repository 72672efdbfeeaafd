package desk_test

import (
	"testing"

	"pentode/api"
	"pentode/desk"
)

// The outputs of all commands are what the packages return, for circuits of all sorts; each command has to have some answers that are no errors.
func TestP11_3WhatThePackagesReturn(t *testing.T) {
	g := newNumbers()
	right := map[string]int{}
	for i := range 400 {
		f := g.file(t, i%sorts)
		for _, first := range commandWords {
			line := g.command(f, first)
			want, e := oracle(f, line)
			check(t, f, line, want, e)
			if e == api.OK {
				right[first]++
			}
		}
	}
	for _, first := range commandWords {
		if right[first] < 20 {
			t.Errorf("only %d lines of %s were right", right[first], first)
		}
	}
}

func TestP11_3AnyCommands(t *testing.T) {
	g := newNumbers()
	for i := range 300 {
		f := g.file(t, i%sorts)
		for range 20 {
			line := g.anyCommand(f)
			want, e := oracle(f, line)
			check(t, f, line, want, e)
		}
	}
}

// A line's lines are the same ones each time, and those of another line make no difference.
func TestP11_3Again(t *testing.T) {
	f := read(t, latch)
	for _, line := range []string{"exact", "points 12 60 0 3", "wave 1 2 1/1000 20 1", "worst v:1 and", "enclose 1/8 1 20 1 1", "text"} {
		want, e := desk.Line(f, line)
		for _, other := range []string{"exact", "x", "points 8 1 0 1", "unknowns", ""} {
			desk.Line(f, other)
			check(t, f, line, want, e)
		}
	}
}
