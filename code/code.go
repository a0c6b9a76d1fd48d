// Package code: programs: see doc/01-code.md.
package code

import (
	"slices"
	"strings"

	"soundings/api"
)

// Check a program.
func Check(p api.Program) api.Errno {
	switch {
	case p.Vars < 1 || p.Vars > api.MaxVars || p.Fields < 0 || p.Fields > api.MaxFields:
		return api.ErrRange
	case len(p.Code) > api.MaxCode:
		return api.ErrMany
	}
	known := shapes()
	for _, x := range p.Code {
		if e := checkInstr(p, known, x); e != api.OK {
			return e
		}
	}
	return api.OK
}

// checkInstr checks an instruction of a program.
func checkInstr(p api.Program, known map[int]shape, x api.Instr) api.Errno {
	s, ok := known[x.Kind]
	if !ok {
		return api.ErrKind
	}
	rest := x
	for _, q := range s.parts {
		n := slot(&rest, q)
		if least, most, e := bounds(p, q); *n < least || *n > most {
			return e
		}
		*n = 0
	}
	if rest != (api.Instr{Kind: x.Kind}) {
		return api.ErrForm
	}
	return api.OK
}

// Print a program.
func Print(p api.Program) (string, api.Errno) {
	if e := Check(p); e != api.OK {
		return "", e
	}
	known := shapes()
	var text strings.Builder
	text.WriteString(printHead(p))
	for _, x := range p.Code {
		text.WriteString(printInstr(known, x))
	}
	return text.String(), api.OK
}

// Parse a program.
func Parse(s string) (api.Program, int, api.Errno) {
	if len(s) > maxTextBytes {
		return api.Program{}, 0, api.ErrMany
	}
	p, line := parseLines(s)
	if line != 0 {
		return api.Program{}, line, api.ErrForm
	}
	if e := Check(p); e != api.OK {
		return api.Program{}, 0, e
	}
	return p, 0, api.OK
}

// Heads of loops.
func Heads(p api.Program) ([]int, api.Errno) {
	if e := Check(p); e != api.OK {
		return nil, e
	}
	var heads []int
	for at := range p.Code {
		// A kind that names no Goto has a 0 there, which leads nowhere.
		back := func(x api.Instr) bool {
			return (x.Kind == api.CodeIf || x.Kind == api.CodeGoto) && x.Goto == at
		}
		if slices.ContainsFunc(p.Code[at:], back) {
			heads = append(heads, at)
		}
	}
	return heads, api.OK
}
