// Package run: runs: see doc/02-run.md.
package run

import (
	"slices"

	"soundings/api"
	"soundings/code"
)

// Begin a run.
func Begin(p api.Program) (api.Run, api.Errno) {
	if e := code.Check(p); e != api.OK {
		return api.Run{}, e
	}
	return api.Run{Vars: make([]api.Value, p.Vars)}, api.OK
}

// Check a run.
func Check(p api.Program, r api.Run) api.Errno {
	if e := code.Check(p); e != api.OK {
		return e
	}
	switch {
	case r.At < 0 || r.At > len(p.Code) || r.Taken < 0 || r.End < 0 || r.End > api.EndThings:
		return api.ErrRange
	case len(r.Vars) != p.Vars:
		return api.ErrForm
	case len(r.Things) > api.MaxThings:
		return api.ErrMany
	}
	return checkThings(p, r)
}

// checkThings checks things, then all values. One kind of error is looked for in all things ahead of the next kind.
func checkThings(p api.Program, r api.Run) api.Errno {
	homeless := func(t api.Thing) bool {
		return t.Site < 0 || t.Site >= len(p.Code) || p.Code[t.Site].Kind != api.CodeNew
	}
	misshapen := func(t api.Thing) bool { return len(t.Fields) != p.Fields }
	bad := func(v api.Value) bool { return !isValue(v, len(r.Things)) }
	holdsBad := func(t api.Thing) bool { return slices.ContainsFunc(t.Fields, bad) }
	switch {
	case slices.ContainsFunc(r.Things, homeless):
		return api.ErrNone
	case slices.ContainsFunc(r.Things, misshapen):
		return api.ErrForm
	case slices.ContainsFunc(r.Vars, bad) || slices.ContainsFunc(r.Things, holdsBad):
		return api.ErrState
	}
	return api.OK
}

// Step of a run.
func Step(p api.Program, r api.Run, inputs []int) (api.Run, api.Errno) {
	if e := Check(p, r); e != api.OK {
		return api.Run{}, e
	}
	m := machine{Run: copyRun(r), program: p, inputs: inputs}
	m.step()
	return m.Run, api.OK
}

// Run from the beginning.
func Run(p api.Program, inputs []int, fuel int) (api.Run, int, api.Errno) {
	r, e := Begin(p)
	if e != api.OK {
		return api.Run{}, 0, e
	}
	if fuel < 0 || fuel > api.MaxFuel {
		return api.Run{}, 0, api.ErrRange
	}
	m := machine{Run: r, program: p, inputs: inputs}
	steps := 0
	for m.End == 0 && steps < fuel {
		m.step()
		steps++
	}
	if m.End == 0 {
		m.End = api.EndFuel
	}
	return m.Run, steps, api.OK
}

// copyRun copies each list of a run, so that stepping it changes none that was handed in.
func copyRun(r api.Run) api.Run {
	r.Vars = slices.Clone(r.Vars)
	r.Lines = slices.Clone(r.Lines)
	r.Things = slices.Clone(r.Things)
	for i := range r.Things {
		r.Things[i].Fields = slices.Clone(r.Things[i].Fields)
	}
	return r
}
