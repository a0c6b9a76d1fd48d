package guess

import (
	"slices"

	"soundings/api"
	"soundings/code"
	"soundings/span"
)

// checkAll checks the program, then one guess after the other.
func checkAll(p api.Program, guesses ...api.Guess) api.Errno {
	if e := code.Check(p); e != api.OK {
		return e
	}
	for _, g := range guesses {
		if e := checkParts(p, g); e != api.OK {
			return e
		}
	}
	return api.OK
}

// checkParts checks a guess at a value of a right program.
func checkParts(p api.Program, g api.Guess) api.Errno {
	if e := span.Check(g.Span); e != api.OK {
		return e
	}
	homeless := func(site int) bool {
		return site < 0 || site >= len(p.Code) || p.Code[site].Kind != api.CodeNew
	}
	if slices.ContainsFunc(g.Sites, homeless) {
		return api.ErrNone
	}
	for i := 1; i < len(g.Sites); i++ {
		if g.Sites[i-1] >= g.Sites[i] {
			return api.ErrState
		}
	}
	return api.OK
}

// together puts two guesses together, if both are right: spans as it is told (they are right, so that there is no error), of all other parts what one of both has.
func together(p api.Program, g, h api.Guess, how func(s, t api.Span) (api.Span, api.Errno)) (api.Guess, api.Errno) {
	if e := checkAll(p, g, h); e != api.OK {
		return api.Guess{}, e
	}
	s, _ := how(g.Span, h.Span)
	return api.Guess{
		Null:  g.Null || h.Null,
		Span:  s,
		True:  g.True || h.True,
		False: g.False || h.False,
		Sites: allSites(g, h),
	}, api.OK
}

// allSites of guesses, rising, in new memory.
func allSites(guesses ...api.Guess) []int {
	var sites []int
	for _, g := range guesses {
		sites = append(sites, g.Sites...)
	}
	slices.Sort(sites)
	return slices.Compact(sites)
}

// anyNothing: may a guess of these be nothing at all?
func anyNothing(guesses ...api.Guess) bool {
	return slices.ContainsFunc(guesses, func(g api.Guess) bool {
		return g.Span.None && !anyOther(g)
	})
}

// anyOther: may a guess of these be something that is no number?
func anyOther(guesses ...api.Guess) bool {
	return slices.ContainsFunc(guesses, func(g api.Guess) bool {
		return g.Null || g.True || g.False || len(g.Sites) > 0
	})
}

// isSingle: may it be one value alone? A site is not one: many things may be made there.
func isSingle(g api.Guess) bool {
	kinds := 0
	for _, may := range []bool{g.Null, !g.Span.None, g.True, g.False} {
		if may {
			kinds++
		}
	}
	return kinds == 1 && g.Span.Lo == g.Span.Hi && len(g.Sites) == 0
}
