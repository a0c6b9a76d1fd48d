package guess

import (
	"slices"

	"soundings/api"
	"soundings/span"
)

// truths is the guess at a truth that may be true, and may be false.
func truths(yes, no bool) api.Guess {
	return api.Guess{Span: api.Span{None: true}, True: yes, False: no}
}

// truth: may a right guess count as true; may it not?
func truth(g api.Guess) (bool, bool) {
	zero, _ := span.Has(g.Span, 0)
	more := !g.Span.None && g.Span != api.Span{}
	return more || g.True || len(g.Sites) > 0, zero || g.Null || g.False
}

// isWrong: may it be wrong to reckon with these? Where one may be nothing at all no run comes.
func isWrong(guesses ...api.Guess) bool {
	return anyOther(guesses...) && !anyNothing(guesses...)
}

// less: may a number of s be less than one of t; may it not?
func less(s, t api.Span) (bool, bool) {
	if s.None || t.None {
		return false, false
	}
	return s.Lo < t.Hi, s.Hi >= t.Lo
}

// same: may a value of g be the same as one of h; may it not?
func same(g, h api.Guess) (bool, bool) {
	if anyNothing(g, h) {
		return false, false
	}
	numbers, _ := span.Meet(g.Span, h.Span)
	common := func(site int) bool { return slices.Contains(h.Sites, site) }
	yes := g.Null && h.Null || !numbers.None || g.True && h.True || g.False && h.False || slices.ContainsFunc(g.Sites, common)
	return yes, !isAlike(g, h)
}

// isAlike: may both be one value alone, the same one?
func isAlike(g, h api.Guess) bool {
	return isSingle(g) && isSingle(h) && g.Null == h.Null && g.Span == h.Span && g.True == h.True && g.False == h.False
}
