package span

import "soundings/api"

// none is the span without numbers.
func none() api.Span { return api.Span{None: true} }

// all is the span of all numbers.
func all() api.Span { return api.Span{Lo: api.Least, Hi: api.Most} }

// isBeyond: is it no number of a run?
func isBeyond(n int) bool { return n < api.Least || n > api.Most }

// checkBoth checks s, then t.
func checkBoth(s, t api.Span) api.Errno {
	if e := Check(s); e != api.OK {
		return e
	}
	return Check(t)
}

// together puts two spans together, if both are right.
func together(s, t api.Span, how func(s, t api.Span) api.Span) (api.Span, api.Errno) {
	if e := checkBoth(s, t); e != api.OK {
		return api.Span{}, e
	}
	return how(s, t), api.OK
}

// join of two right spans.
func join(s, t api.Span) api.Span {
	switch {
	case s.None:
		return t
	case t.None:
		return s
	}
	return api.Span{Lo: min(s.Lo, t.Lo), Hi: max(s.Hi, t.Hi)}
}

// meet of two right spans.
func meet(s, t api.Span) api.Span {
	lo, hi := max(s.Lo, t.Lo), min(s.Hi, t.Hi)
	if s.None || t.None || lo > hi {
		return none()
	}
	return api.Span{Lo: lo, Hi: hi}
}

// reckon with each number of s and each one of t. Of sums, differences and products the least and the greatest come of ends, so that no other numbers are looked at.
func reckon(s, t api.Span, how func(n, m int) int) api.Span {
	if s.None || t.None {
		return none()
	}
	a, b, c, d := how(s.Lo, t.Lo), how(s.Lo, t.Hi), how(s.Hi, t.Lo), how(s.Hi, t.Hi)
	lo, hi := min(a, b, c, d), max(a, b, c, d)
	if isBeyond(lo) || isBeyond(hi) {
		return all()
	}
	return api.Span{Lo: lo, Hi: hi}
}
