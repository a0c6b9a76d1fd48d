package picture

import (
	"slices"

	"soundings/api"
	"soundings/code"
	"soundings/guess"
)

// nothing is the guess that may be nothing at all.
func nothing() api.Guess {
	return api.Guess{Span: api.Span{None: true}}
}

// isSame: are both the same guess? It saves calls of chapter 4, each of which looks at the whole program: a picture has many guesses, and most of them are alike.
func isSame(g, h api.Guess) bool {
	return g.Null == h.Null && g.Span == h.Span && g.True == h.True && g.False == h.False && slices.Equal(g.Sites, h.Sites)
}

// isSomething: may it be something? (One that is not right counts, too.)
func isSomething(g api.Guess) bool {
	return !isSame(g, nothing())
}

// row of guesses, all the same; it may have no sites, since they would be shared.
func row(g api.Guess, n int) []api.Guess {
	return slices.Repeat([]api.Guess{g}, n)
}

// all guesses of a picture, in the order in which they are checked.
func all(x api.Picture) []api.Guess {
	return slices.Concat(x.Vars, slices.Concat(x.Fields...))
}

// checkAll checks the program, then one picture after the other.
func checkAll(p api.Program, pictures ...api.Picture) api.Errno {
	if e := code.Check(p); e != api.OK {
		return e
	}
	for _, x := range pictures {
		if e := checkParts(p, x); e != api.OK {
			return e
		}
	}
	return api.OK
}

// checkParts checks a picture of a right program.
func checkParts(p api.Program, x api.Picture) api.Errno {
	if !isFormed(p, x) {
		return api.ErrForm
	}
	for _, g := range all(x) {
		// Nothing at all is right in every program.
		if !isSomething(g) {
			continue
		}
		if e := guess.Check(p, g); e != api.OK {
			return e
		}
	}
	for at, fields := range x.Fields {
		if p.Code[at].Kind != api.CodeNew && slices.ContainsFunc(fields, isSomething) {
			return api.ErrState
		}
	}
	return api.OK
}

// isFormed: has a picture as many guesses as it must have?
func isFormed(p api.Program, x api.Picture) bool {
	if x.None {
		return len(x.Vars) == 0 && len(x.Fields) == 0
	}
	other := func(fields []api.Guess) bool { return len(fields) != p.Fields }
	return len(x.Vars) == p.Vars && len(x.Fields) == len(p.Code) && !slices.ContainsFunc(x.Fields, other)
}

// maker makes one guess of two right ones, so that there is no error.
type maker func(p api.Program, g, h api.Guess) (api.Guess, api.Errno)

// together puts two pictures together, if both are right: guesses as it is told.
func together(p api.Program, x, y api.Picture, how maker) (api.Picture, api.Errno) {
	if e := checkAll(p, x, y); e != api.OK {
		return api.Picture{}, e
	}
	// A picture that is put together with itself stays as it is.
	switch {
	case x.None:
		x = y
	case y.None:
		y = x
	}
	z := api.Picture{None: x.None, Vars: rowTogether(p, x.Vars, y.Vars, how)}
	for i := range x.Fields {
		z.Fields = append(z.Fields, rowTogether(p, x.Fields[i], y.Fields[i], how))
	}
	return z, api.OK
}

// rowTogether puts two rows of guesses together, one by one.
func rowTogether(p api.Program, one, other []api.Guess, how maker) []api.Guess {
	var l []api.Guess
	for i, g := range one {
		if isSame(g, other[i]) {
			g.Sites = slices.Clone(g.Sites)
		} else {
			g, _ = how(p, g, other[i])
		}
		l = append(l, g)
	}
	return l
}

// isWithin: is a right guess within another one?
func isWithin(p api.Program, g, h api.Guess) bool {
	if isSame(g, h) {
		return true
	}
	ok, _ := guess.Within(p, g, h)
	return ok
}

// holdsRow: does each of some right guesses hold its value of a right run?
func holdsRow(p api.Program, guesses []api.Guess, values []api.Value, things []api.Thing) bool {
	for i, v := range values {
		if ok, _ := guess.Holds(p, guesses[i], v, siteOf(v, things)); !ok {
			return false
		}
	}
	return true
}

// siteOf a value, if it is a thing.
func siteOf(v api.Value, things []api.Thing) int {
	if v.Kind != api.ValueThing {
		return 0
	}
	return things[v.N].Site
}
