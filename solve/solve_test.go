package solve_test

import (
	"math"
	"math/rand"
	"reflect"
	"slices"
	"strconv"
	"strings"
	"testing"

	"soundings/api"
	"soundings/code"
	"soundings/picture"
	"soundings/run"
	"soundings/solve"
	"soundings/step"
)

const (
	least = -2147483648
	most  = 2147483647
)

func parse(t *testing.T, text string) api.Program {
	t.Helper()
	p, line, e := code.Parse(text)
	if e != api.OK {
		t.Fatalf("%q: %d at %d", text, e, line)
	}
	return p
}

// lines of a program with a head.
func lines(t *testing.T, head string, l ...string) api.Program {
	t.Helper()
	return parse(t, head+"\n"+strings.Join(append(l, ""), "\n"))
}

// maybe is a part of a guess.
type maybe func(g *api.Guess)

func null(g *api.Guess)     { g.Null = true }
func yes(g *api.Guess)      { g.True = true }
func no(g *api.Guess)       { g.False = true }
func things(l ...int) maybe { return func(g *api.Guess) { g.Sites = l } }

// from lo to hi.
func from(lo, hi int) maybe { return func(g *api.Guess) { g.Span = api.Span{Lo: lo, Hi: hi} } }

// just one number.
func just(n int) maybe { return from(n, n) }

// may is the guess that has just these parts.
func may(parts ...maybe) api.Guess {
	g := api.Guess{Span: api.Span{None: true}}
	for _, part := range parts {
		part(&g)
	}
	return g
}

// of is the picture of a program in which variables are these, and fields may be nothing.
func of(p api.Program, vars ...api.Guess) api.Picture {
	x := api.Picture{Vars: vars}
	for range p.Code {
		x.Fields = append(x.Fields, slices.Repeat([]api.Guess{may()}, p.Fields))
	}
	return x
}

func none() api.Picture { return api.Picture{None: true} }

// showGuess as a text: - for nothing at all.
func showGuess(g api.Guess) string {
	var parts []string
	show := func(part string, ok bool) {
		if ok {
			parts = append(parts, part)
		}
	}
	show("null", g.Null)
	show(strconv.Itoa(g.Span.Lo), !g.Span.None && g.Span.Lo == g.Span.Hi)
	show(strconv.Itoa(g.Span.Lo)+".."+strconv.Itoa(g.Span.Hi), !g.Span.None && g.Span.Lo != g.Span.Hi)
	show("true", g.True)
	show("false", g.False)
	for _, site := range g.Sites {
		show("@"+strconv.Itoa(site), true)
	}
	show("-", len(parts) == 0)
	return strings.Join(parts, "|")
}

// show a right picture as a text: what variables may be, then what fields may be of sites that have some.
func show(x api.Picture) string {
	if x.None {
		return "none"
	}
	row := func(l []api.Guess) string {
		var words []string
		for _, g := range l {
			words = append(words, showGuess(g))
		}
		return strings.Join(words, " ")
	}
	text := row(x.Vars)
	for site, l := range x.Fields {
		if s := row(l); strings.Trim(s, "- ") != "" {
			text += "; " + strconv.Itoa(site) + ": " + s
		}
	}
	return text
}

func showAll(l []api.Picture) string {
	var rows []string
	for _, x := range l {
		rows = append(rows, show(x))
	}
	return strings.Join(rows, "\n")
}

// clone of pictures that shares nothing with them.
func clone(l []api.Picture) []api.Picture {
	copyRow := func(l []api.Guess) []api.Guess {
		l = slices.Clone(l)
		for i := range l {
			l[i].Sites = slices.Clone(l[i].Sites)
		}
		return l
	}
	l = slices.Clone(l)
	for i := range l {
		l[i].Vars, l[i].Fields = copyRow(l[i].Vars), slices.Clone(l[i].Fields)
		for k := range l[i].Fields {
			l[i].Fields[k] = copyRow(l[i].Fields[k])
		}
	}
	return l
}

// fits: Fits says so of right pictures.
func fits(t *testing.T, what string, p api.Program, l []api.Picture, want bool) {
	t.Helper()
	if ok, e := solve.Fits(p, l); ok != want || e != api.OK {
		t.Errorf("%s: Fits of\n%s\nis %v, %d", what, showAll(l), ok, e)
	}
}

func TestG1Fits(t *testing.T) {
	p := lines(t, "vars 1 fields 0", "number 0 5", "print 0")
	begin, five := of(p, may(null)), of(p, may(just(5)))
	wide := of(p, may(null, from(0, 9), yes))
	fits(t, "the least", p, []api.Picture{begin, five, five}, true)
	fits(t, "more at the end", p, []api.Picture{begin, five, wide}, true)
	fits(t, "more at the beginning", p, []api.Picture{wide, five, five}, true)
	fits(t, "more each time", p, []api.Picture{begin, wide, wide}, true)
	fits(t, "more in between", p, []api.Picture{begin, wide, five}, false)
	fits(t, "less behind the last one", p, []api.Picture{begin, five, of(p, may(just(4)))}, false)
	fits(t, "nothing behind the last one", p, []api.Picture{begin, five, of(p, may())}, false)
	fits(t, "none behind the last one", p, []api.Picture{begin, five, none()}, false)
	fits(t, "less in between", p, []api.Picture{begin, begin, five}, false)
	fits(t, "none in between", p, []api.Picture{begin, none(), five}, false)
	fits(t, "none at all", p, []api.Picture{none(), none(), none()}, false)
}

func TestG1BeginIsWithinTheFirst(t *testing.T) {
	for _, p := range []api.Program{lines(t, "vars 2 fields 0"), lines(t, "vars 2 fields 0", "end"), lines(t, "vars 2 fields 1", "goto 0")} {
		at := func(x api.Picture) []api.Picture {
			return append([]api.Picture{x}, slices.Repeat([]api.Picture{none()}, len(p.Code))...)
		}
		begin, _ := picture.Begin(p)
		fits(t, "the beginning", p, at(begin), true)
		fits(t, "more", p, at(of(p, may(null, just(0)), may(null, yes, no))), true)
		fits(t, "none", p, at(none()), false)
		fits(t, "nothing", p, at(of(p, may(), may())), false)
		fits(t, "one is no null", p, at(of(p, may(null), may(just(0)))), false)
		fits(t, "the other is no null", p, at(of(p, may(yes), may(null))), false)
	}
}

// crossing is a program with a line at place 2 (wherever it leads, nothing goes on from there), and a picture with which each line goes on.
func crossing(t *testing.T, line string) (api.Program, api.Picture) {
	t.Helper()
	p := lines(t, "vars 4 fields 1", "end", "end", line, "end", "new 0", "new 0", "end")
	x := of(p, may(null, from(0, 4), yes), may(from(1, 3)), may(things(4, 5)), may(from(-2, 2)))
	x.Fields[4][0], x.Fields[5][0] = may(null, just(7)), may(null, things(4))
	return p, x
}

// lesser pictures than a right one: each has one part less, or is none.
func lesser(x api.Picture) []api.Picture {
	l := []api.Picture{none()}
	less := func(change func(y *api.Picture)) {
		y := clone([]api.Picture{x})[0]
		change(&y)
		l = append(l, y)
	}
	for i, g := range x.Vars {
		less(func(y *api.Picture) { y.Vars[i] = may() })
		if g.Null {
			less(func(y *api.Picture) { y.Vars[i].Null = false })
		}
		if !g.Span.None && g.Span.Lo < g.Span.Hi {
			less(func(y *api.Picture) { y.Vars[i].Span.Hi-- })
			less(func(y *api.Picture) { y.Vars[i].Span.Lo++ })
		}
		if len(g.Sites) > 0 {
			less(func(y *api.Picture) { y.Vars[i].Sites = g.Sites[1:] })
		}
	}
	for site, fields := range x.Fields {
		if fields[0].Null {
			less(func(y *api.Picture) { y.Fields[site][0].Null = false })
		}
	}
	return l
}

func TestG1EachEdgeOfEachInstruction(t *testing.T) {
	for _, line := range kinds() {
		p, x := crossing(t, line)
		l := slices.Repeat([]api.Picture{none()}, 8)
		begin, _ := picture.Begin(p)
		l[0], l[2] = begin, x
		edges, _, _, _ := step.Step(p, 2, x)
		for _, edge := range edges {
			l[edge.To], _ = picture.Join(p, l[edge.To], edge.Picture)
		}
		fits(t, line, p, l, true)
		for _, edge := range edges {
			for _, y := range lesser(edge.Picture) {
				m := slices.Clone(l)
				m[edge.To] = y
				// From less at the line itself its edges have less, too, and may fit.
				if edge.To != 2 {
					fits(t, line, p, m, false)
				}
			}
		}
		if len(edges) == 0 && line != "end" {
			t.Errorf("%s has no edge", line)
		}
	}
}

// kinds has a line of each kind, and jumps to all sides.
func kinds() []string {
	return strings.Split("number 0 5,truth 0 1,null 0,copy 1 0,add 0 1 3,sub 1 1 3,mul 1 1 1,less 0 1 3,same 2 0 1,not 0 1,new 3,get 0 2 0,put 2 0 0,input 3 10,if 0 0,if 0 1,if 0 2,if 0 3,if 0 6,if 0 7,goto 1,goto 2,goto 3,goto 7,expect 0,print 0,end", ",")
}

func TestG1BothEdgesOfAnIf(t *testing.T) {
	p := lines(t, "vars 1 fields 0", "input 0 5", "if 0 3", "end", "end")
	begin, input, zero := of(p, may(null)), of(p, may(from(-5, 5))), of(p, may(just(0)))
	fits(t, "both", p, []api.Picture{begin, input, zero, input, none()}, true)
	fits(t, "more", p, []api.Picture{begin, input, input, input, input}, true)
	fits(t, "less where it counts as true", p, []api.Picture{begin, input, zero, of(p, may(from(-5, 4))), none()}, false)
	fits(t, "less where it does not", p, []api.Picture{begin, input, of(p, may(from(1, 5))), input, none()}, false)
	fits(t, "none where it counts as true", p, []api.Picture{begin, input, zero, none(), none()}, false)
	fits(t, "none where it does not", p, []api.Picture{begin, input, none(), input, none()}, false)
	p = lines(t, "vars 1 fields 0", "input 0 5", "if 0 2", "end")
	begin, input, zero = of(p, may(null)), of(p, may(from(-5, 5))), of(p, may(just(0)))
	fits(t, "both to one place", p, []api.Picture{begin, input, input, none()}, true)
	fits(t, "both to one place", p, []api.Picture{begin, input, zero, none()}, false)
	fits(t, "both to one place", p, []api.Picture{begin, input, of(p, may(from(1, 5))), none()}, false)
}

// wrongPrograms has programs that Check of chapter 1 refuses, each by another error.
func wrongPrograms() map[api.Errno]api.Program {
	return map[api.Errno]api.Program{
		api.ErrRange: {},
		api.ErrMany:  {Vars: 1, Code: make([]api.Instr, 61)},
		api.ErrKind:  {Vars: 1, Code: make([]api.Instr, 1)},
		api.ErrNone:  {Vars: 1, Code: []api.Instr{{Kind: api.CodeNull, To: 1}}},
		api.ErrForm:  {Vars: 1, Code: []api.Instr{{Kind: api.CodeEnd, A: 1}}},
	}
}

// misfit: Fits has this error.
func misfit(t *testing.T, what string, p api.Program, l []api.Picture, want api.Errno) {
	t.Helper()
	if ok, e := solve.Fits(p, l); ok || e != want {
		t.Errorf("%s: Fits of %v is %v, %d, not %d", what, l, ok, e, want)
	}
}

func TestG1Errors(t *testing.T) {
	p := lines(t, "vars 1 fields 1", "new 0", "print 0")
	x := of(p, may(null, things(0)))
	x.Fields[0][0] = may(null)
	state, site, number := of(p, may(null)), of(p, may(null, things(1))), of(p, may(from(0, most+1)))
	state.Fields[1][0] = may(null)
	right := []api.Picture{x, x, x}
	fits(t, "right", p, right, true)
	for want, wrong := range wrongPrograms() {
		for _, l := range [][]api.Picture{nil, right, {x, x}, {{}, site, x}, {none()}, {none(), none()}} {
			misfit(t, "a wrong program", wrong, l, want)
		}
	}
	for _, l := range [][]api.Picture{nil, {}, {x}, {x, x}, {x, x, x, x}, {site, x}, {x, x, x, site}, {none(), none()}} {
		misfit(t, "not as many", p, l, api.ErrForm)
	}
	misfit(t, "not as many", lines(t, "vars 1 fields 0"), nil, api.ErrForm)
	for k := range right {
		for _, c := range []struct {
			x    api.Picture
			want api.Errno
		}{{api.Picture{}, api.ErrForm}, {api.Picture{None: true, Vars: x.Vars}, api.ErrForm}, {state, api.ErrState}, {site, api.ErrNone}, {number, api.ErrRange}} {
			for _, rest := range []api.Picture{x, none()} {
				l := slices.Repeat([]api.Picture{rest}, 3)
				l[k] = c.x
				misfit(t, "a wrong picture", p, l, c.want)
			}
		}
	}
	misfit(t, "one by one", p, []api.Picture{site, number, {}}, api.ErrNone)
	misfit(t, "one by one", p, []api.Picture{x, number, {}}, api.ErrRange)
	misfit(t, "one by one", p, []api.Picture{none(), {}, state}, api.ErrForm)
}

// solved: these are the pictures of a program, and so many rounds there were.
func solved(t *testing.T, what string, p api.Program, rounds int, want ...string) {
	t.Helper()
	l, n, e := solve.Solve(p)
	if showAll(l) != strings.Join(want, "\n") || n != rounds || e != api.OK {
		t.Errorf("%s: it is solved in %d rounds, not in %d, %d:\n%s", what, n, rounds, e, showAll(l))
	}
	for _, x := range l {
		if picture.Check(p, x) != api.OK {
			t.Errorf("%s: %v is no picture", what, x)
		}
	}
}

func TestG2Solve(t *testing.T) {
	solved(t, "no code", lines(t, "vars 1 fields 0"), 1, "null")
	solved(t, "no code", lines(t, "vars 8 fields 3"), 1, "null null null null null null null null")
	solved(t, "an end", lines(t, "vars 2 fields 0", "end"), 1, "null null", "none")
	solved(t, "one after the other", lines(t, "vars 1 fields 0", "number 0 5", "print 0"), 2, "null", "5", "5")
	solved(t, "it fails", lines(t, "vars 1 fields 0", "expect 0"), 1, "null", "none")
	solved(t, "it is wrong", lines(t, "vars 1 fields 0", "add 0 0 0", "print 0"), 1, "null", "none", "none")
	solved(t, "a jump to itself", lines(t, "vars 1 fields 0", "goto 0"), 1, "null", "none")
	solved(t, "a thing", lines(t, "vars 2 fields 2", "new 0", "put 0 1 0", "get 1 0 1"), 2,
		"null null", "@0 null; 0: null null", "@0 null; 0: null null|@0", "@0 null|@0; 0: null null|@0")
}

func TestG2WhatComesTogetherIsJoined(t *testing.T) {
	solved(t, "two ways", lines(t, "vars 2 fields 0", "input 0 9", "if 0 4", "truth 1 1", "goto 5", "number 1 3", "print 1"), 2,
		"null null", "-9..9 null", "0 null", "0 true", "-9..9 null", "-9..9 3|true", "-9..9 3|true")
	solved(t, "both edges to one place", lines(t, "vars 1 fields 0", "input 0 5", "if 0 2"), 2, "null", "-5..5", "-5..5")
	solved(t, "true edge alone", lines(t, "vars 1 fields 0", "truth 0 1", "if 0 3", "print 0"), 2, "null", "true", "none", "true")
	solved(t, "false edge alone", lines(t, "vars 1 fields 0", "if 0 2", "print 0"), 2, "null", "null", "null")
}

func TestG2FromTheFirstInstructionToTheLast(t *testing.T) {
	solved(t, "there and back", lines(t, "vars 1 fields 0", "goto 2", "end", "goto 1"), 2, "null", "null", "null", "none")
	solved(t, "back and back", lines(t, "vars 1 fields 0", "goto 3", "end", "goto 1", "number 0 5", "goto 2"), 3, "null", "5", "5", "null", "5", "none")
	solved(t, "to the beginning", lines(t, "vars 1 fields 0", "print 0", "truth 0 0", "goto 0"), 3, "null|false", "null|false", "false", "none")
	solved(t, "an edge back changes what is stepped in the next round", lines(t, "vars 2 fields 0", "goto 3", "copy 1 0", "end", "number 0 1", "goto 1"), 3,
		"null null", "1 null", "1 1", "null null", "1 null", "none")
}

// countdown from n to 0, by 1.
func countdown(t *testing.T, n string) api.Program {
	return lines(t, "vars 2 fields 0", "number 0 "+n, "number 1 1", "sub 0 0 1", "if 0 2", "print 0")
}

func TestG2FromTheFourthRoundOn(t *testing.T) {
	begin := "null null"
	solved(t, "once", countdown(t, "1"), 2, begin, "1 null", "1 1", "0 1", "0 1", "0 1")
	solved(t, "three times", countdown(t, "3"), 4, begin, "3 null", "1..3 1", "0..2 1", "0 1", "0 1")
	solved(t, "four times", countdown(t, "4"), 5, begin, "4 null", "1..4 1", "0..3 1", "0 1", "0 1")
	all := "-2147483648..2147483647 1"
	solved(t, "five times", countdown(t, "5"), 6, begin, "5 null", all, all, "0 1", "0 1")
}

func TestG2WhatGrowsWithoutAnEnd(t *testing.T) {
	all := "-2147483648..2147483647 1"
	solved(t, "up", lines(t, "vars 2 fields 0", "number 0 0", "number 1 1", "add 0 0 1", "goto 2"), 6, "null null", "0 null", all, all, "none")
	solved(t, "twice as much", lines(t, "vars 1 fields 0", "number 0 1", "add 0 0 0", "goto 1"), 6, "null", "-2147483648..2147483647", "-2147483648..2147483647", "none")
	solved(t, "to both sides", lines(t, "vars 2 fields 0", "number 0 1", "number 1 -2", "mul 0 0 1", "goto 2"), 6, "null null", "1 null", "-2147483648..2147483647 -2", "-2147483648..2147483647 -2", "none")
}

// shift is a program in which a 1 goes on by one variable each time around, and comes to the last one in the fourth round.
func shift(t *testing.T, more ...string) api.Program {
	l := []string{"number 0 1", "number 1 0", "number 2 0", "number 3 0", "number 4 0", "copy 4 3"}
	return lines(t, "vars 6 fields 0", slices.Concat(l, more, []string{"copy 3 2", "copy 2 1", "copy 1 0", "goto 5"})...)
}

func TestG2OnlyEdgesThatLeadBackAreWidened(t *testing.T) {
	ahead := []string{"null null null null null null", "1 null null null null null", "1 0 null null null null", "1 0 0 null null null", "1 0 0 0 null null"}
	around := "1 0..1 0..1 0..1 0..1 null"
	solved(t, "around", shift(t), 5, append(ahead, "1 0..1 0..1 0..1 0..2147483647 null", around, around, around, "1 1 0..1 0..1 0..1 null", "none")...)
	asked, left := "1 0..1 0..1 0..1 0..1 -1..1", "1 0..1 0..1 0..1 0..1 0"
	// Place 7 is a head, too, but what comes there from ahead is joined.
	solved(t, "an inner loop", shift(t, "input 5 1", "print 4", "if 5 7"), 5, append(ahead,
		"1 0..1 0..1 0..1 0..2147483647 null|0", "1 0..1 0..1 0..1 0..1 null|0", asked, asked, left, left, left, "1 1 0..1 0..1 0..1 0", "none")...)
}

func TestG2FieldsAreWidenedToo(t *testing.T) {
	p := lines(t, "vars 5 fields 1", "new 4", "number 0 1", "number 1 0", "number 2 0", "number 3 0", "put 4 0 3", "copy 3 2", "copy 2 1", "copy 1 0", "goto 5")
	around := "1 0..1 0..1 0..1 @0; 0: null|0..2147483647"
	solved(t, "around", p, 6, "null null null null null", "null null null null @0; 0: null", "1 null null null @0; 0: null", "1 0 null null @0; 0: null", "1 0 0 null @0; 0: null",
		around, around, around, around, "1 1 0..1 0..1 @0; 0: null|0..2147483647", "none")
}

func TestG2Errors(t *testing.T) {
	for want, p := range wrongPrograms() {
		if l, n, e := solve.Solve(p); len(l) > 0 || n != 0 || e != want {
			t.Errorf("Solve of %v is %v, %d, %d, not %d", p, l, n, e, want)
		}
	}
}

// bySteps solves a program just as G2 tells it: each round goes through all instructions.
func bySteps(p api.Program) ([]api.Picture, int) {
	l := slices.Repeat([]api.Picture{none()}, len(p.Code)+1)
	l[0], _ = picture.Begin(p)
	for n := 1; ; n++ {
		before := showAll(l)
		for at := range p.Code {
			edges, _, _, _ := step.Step(p, at, l[at])
			for _, x := range edges {
				if n >= 4 && x.To <= at {
					l[x.To], _ = picture.Widen(p, l[x.To], x.Picture)
				} else {
					l[x.To], _ = picture.Join(p, l[x.To], x.Picture)
				}
			}
		}
		if showAll(l) == before {
			return l, n
		}
	}
}

// bases are programs whose runs go on for long; changed programs are made of them.
func bases() []string {
	return []string{
		"vars 3 fields 0\nnumber 0 0\nnumber 1 1\ninput 2 10\nadd 0 0 1\nprint 0\nsub 2 2 1\nif 2 3\nend\n",
		"vars 4 fields 1\ninput 0 4\nnull 1\nnumber 3 1\nif 0 6\nput 1 0 1\nend\nnew 2\nput 2 0 1\ncopy 1 2\nsub 0 0 3\ngoto 3\n",
		"vars 4 fields 2\ninput 0 9\nnew 1\nput 1 0 0\nnew 2\nput 2 1 1\nput 1 1 2\nget 3 2 1\nget 3 3 0\nless 3 0 3\nif 3 0\ncopy 1 2\ninput 0 2\nif 0 2\nexpect 0\n",
		"vars 5 fields 0\nnumber 0 1\nnumber 1 0\nnull 2\ntruth 3 1\ncopy 4 3\ncopy 3 2\ncopy 2 1\ncopy 1 0\nadd 0 0 0\ninput 4 1\nif 4 4\nsame 4 2 3\nif 4 4\nexpect 4\n",
		"vars 3 fields 3\nnew 0\ninput 1 2\nif 1 5\nput 0 0 0\ngoto 9\nnew 2\nput 0 1 2\nput 2 2 0\nget 0 0 1\ninput 1 3\nless 1 1 1\nnot 1 1\nif 1 1\n",
		"vars 2 fields 1\ngoto 4\nnumber 0 3\nmul 1 0 0\ngoto 7\ninput 0 1\nif 0 1\nnew 1\nsame 0 0 1\nprint 1\nnot 0 0\nif 0 4\n",
	}
}

// drawInstr draws an instruction for a program; it may be wrong there.
func drawInstr(r *rand.Rand, p api.Program) api.Instr {
	word := strings.Fields(kinds()[r.Intn(len(kinds()))])
	for i := range word[1:] {
		word[i+1] = strconv.Itoa(r.Intn(p.Vars))
	}
	switch {
	case word[0] == "number" || word[0] == "input":
		word[2] = strconv.Itoa(r.Intn(7))
	case word[0] == "truth":
		word[2] = strconv.Itoa(r.Intn(2))
	case word[0] == "if" || word[0] == "goto":
		word[len(word)-1] = strconv.Itoa(r.Intn(len(p.Code) + 1))
	}
	q, _, e := code.Parse("vars 8 fields 3\n" + strings.Repeat("end\n", 20) + strings.Join(word, " ") + "\n")
	if e != api.OK {
		return api.Instr{}
	}
	return q.Code[20]
}

// draw a right program: one of bases with some instructions changed.
func draw(t *testing.T, r *rand.Rand) api.Program {
	t.Helper()
	p := parse(t, bases()[r.Intn(len(bases()))])
	for range r.Intn(5) {
		q := p
		q.Code = slices.Clone(p.Code)
		at := r.Intn(len(q.Code))
		q.Code[at] = drawInstr(r, p)
		if code.Check(q) == api.OK {
			p = q
		}
	}
	return p
}

func TestG2AsItIsTold(t *testing.T) {
	r := rand.New(rand.NewSource(1))
	rounds := map[int]int{}
	for range 400 {
		p := draw(t, r)
		l, n, e := solve.Solve(p)
		want, wantRounds := bySteps(p)
		if showAll(l) != showAll(want) || n != wantRounds || e != api.OK {
			t.Fatalf("%v is solved in %d rounds, %d:\n%s\nnot in %d:\n%s", p, n, e, showAll(l), wantRounds, showAll(want))
		}
		rounds[min(n, 5)]++
	}
	for n := 2; n <= 5; n++ {
		if rounds[n] < 20 {
			t.Errorf("only %d were solved in %d rounds", rounds[n], n)
		}
	}
}

func TestG3WhatIsSolvedFits(t *testing.T) {
	r := rand.New(rand.NewSource(2))
	spoilt := 0
	for range 150 {
		p := draw(t, r)
		l, _, _ := solve.Solve(p)
		fits(t, "solved", p, l, true)
		for k := range l {
			if l[k].None {
				continue
			}
			// A place that is not None is the beginning, or an edge leads there: it can't be left out.
			m := slices.Clone(l)
			m[k] = none()
			fits(t, "with one left out", p, m, false)
			spoilt++
		}
	}
	if spoilt < 1000 {
		t.Errorf("only %d were spoilt", spoilt)
	}
}

// shown: each state of a run is shown by the picture where it stands; how many there were.
func shown(t *testing.T, p api.Program, l []api.Picture, inputs []int) (int, int) {
	t.Helper()
	q, _ := run.Begin(p)
	for n := range 100 {
		if ok, e := picture.Holds(p, l[q.At], q); !ok || e != api.OK {
			t.Fatalf("%v, with inputs %v: at %d %s does not show %v, %d", p, inputs, q.At, show(l[q.At]), q, e)
		}
		if q.End != 0 {
			return n, q.End
		}
		q, _ = run.Step(p, q, inputs)
	}
	return 100, 0
}

func TestG3EachRunIsShownWhereItStands(t *testing.T) {
	r := rand.New(rand.NewSource(3))
	steps, ends := 0, map[int]int{}
	for range 150 {
		p := draw(t, r)
		l, _, _ := solve.Solve(p)
		for _, inputs := range [][]int{nil, {0}, {1, 0, 1}, {-1, -1, -1, -1, -1}, {math.MinInt, math.MaxInt}, {most, least, most, 1}, r.Perm(12)} {
			n, end := shown(t, p, l, inputs)
			steps += n
			ends[end]++
		}
	}
	if steps < 10000 {
		t.Errorf("only %d steps were shown", steps)
	}
	for _, end := range []int{0, api.EndDone, api.EndWrong, api.EndFailed} {
		if ends[end] < 20 {
			t.Errorf("only %d runs ended by %d", ends[end], end)
		}
	}
}

func TestG3BehindTheLastInstruction(t *testing.T) {
	p := lines(t, "vars 2 fields 1", "new 0", "input 1 5", "if 1 5", "put 0 0 1", "goto 6", "put 0 0 0")
	l, _, _ := solve.Solve(p)
	if show(l[6]) != "@0 -5..5; 0: null|0|@0" {
		t.Errorf("behind the last one it is %s", show(l[6]))
	}
	for _, inputs := range [][]int{{0}, {5}, {-9}} {
		if n, end := shown(t, p, l, inputs); n < 5 || end != api.EndDone {
			t.Errorf("with %v it ended after %d steps by %d", inputs, n, end)
		}
	}
}

func TestP1WhateverIsHandedIn(t *testing.T) {
	r := rand.New(rand.NewSource(4))
	odd := []int{0, 1, 2, 3, 11, 13, 15, 16, 19, 20, -1, math.MinInt, math.MaxInt}
	pick := func() int { return odd[r.Intn(len(odd))] }
	errors := map[api.Errno]int{}
	for range 1000 {
		p := draw(t, r)
		if r.Intn(2) > 0 {
			p.Code[r.Intn(len(p.Code))] = api.Instr{Kind: pick(), To: pick(), A: pick(), B: pick(), N: pick(), Goto: pick()}
		}
		l, _, e := solve.Solve(p)
		if e != code.Check(p) || e != api.OK && len(l) > 0 {
			t.Fatalf("Solve of %v: %v, %d", p, l, e)
		}
		if e != api.OK {
			continue
		}
		x := &l[r.Intn(len(l))]
		switch {
		case len(x.Vars) == 0:
			x.None = r.Intn(2) > 0
		case r.Intn(2) > 0:
			x.Vars[r.Intn(len(x.Vars))].Sites = []int{pick()}
		default:
			x.Vars[r.Intn(len(x.Vars))].Span.Hi = pick()
		}
		ok, e := solve.Fits(p, l)
		errors[e]++
		if e != picture.Check(p, *x) || ok && e != api.OK {
			t.Fatalf("Fits of %v is %v, %d", l, ok, e)
		}
	}
	for _, e := range []api.Errno{api.OK, api.ErrForm, api.ErrRange, api.ErrState, api.ErrNone} {
		if errors[e] < 5 {
			t.Errorf("only %d times it was %d", errors[e], e)
		}
	}
}

// longWay is a program of most instructions in which what comes at the end goes back by one block in each round, and what then comes at the beginning lets something else come at the end.
func longWay() api.Program {
	p := api.Program{Vars: 8}
	add := func(l ...api.Instr) { p.Code = append(p.Code, l...) }
	for v := 0; v < 6; v += 2 {
		add(api.Instr{Kind: api.CodeCopy, To: v + 1, A: v})
	}
	for back := 0; len(p.Code) < 53; back = len(p.Code) - 2 {
		add(api.Instr{Kind: api.CodeInput, To: 7, N: 1}, api.Instr{Kind: api.CodeIf, A: 7, Goto: back})
	}
	add(api.Instr{Kind: api.CodeTruth, To: 0, N: 1})
	for v := 2; v < 8; v += 2 {
		add(api.Instr{Kind: api.CodeCopy, To: v, A: v - 1})
	}
	add(api.Instr{Kind: api.CodeInput, To: 7, N: 1}, api.Instr{Kind: api.CodeIf, A: 7, Goto: 51}, api.Instr{Kind: api.CodePrint})
	return p
}

func TestP1LongWays(t *testing.T) {
	p := longWay()
	l, n, e := solve.Solve(p)
	want, rounds := bySteps(p)
	if e != api.OK || n != rounds || n < 100 || len(p.Code) != 60 || showAll(l) != showAll(want) {
		t.Errorf("%d instructions, %d rounds, not %d, %d:\n%s", len(p.Code), n, rounds, e, showAll(l))
	}
	if len(l) == 61 && show(l[60]) != "true null|true null|true null|true null|true null|true null|true 0" {
		t.Errorf("behind the last one it is %s", show(l[60]))
	}
}

// linked is a program with things that lead to each other, and loops.
func linked(t *testing.T) api.Program {
	return lines(t, "vars 4 fields 2", "new 0", "new 1", "put 0 0 1", "put 1 1 0", "copy 2 0", "get 3 2 0", "put 3 0 2", "input 3 1", "if 3 1", "copy 0 1", "if 2 5")
}

// rows of guesses of a picture.
func rows(x api.Picture) [][]api.Guess { return append([][]api.Guess{x.Vars}, x.Fields...) }

func equalRows(l, m []api.Guess) bool {
	return slices.EqualFunc(l, m, func(g, h api.Guess) bool { return showGuess(g) == showGuess(h) })
}

// scribble over a list of guesses, and over its spare room.
func scribble(l []api.Guess) {
	for i := range l {
		sites := l[i].Sites[:cap(l[i].Sites)]
		for k := range sites {
			sites[k] = -9
		}
	}
	for i := range l[:cap(l)] {
		l[:cap(l)][i] = may(just(-9))
	}
}

func TestP2NoTwoListsShareMemory(t *testing.T) {
	for _, p := range []api.Program{linked(t), shift(t), countdown(t, "5"), lines(t, "vars 3 fields 3"), lines(t, "vars 2 fields 2", "new 0", "new 1", "goto 0")} {
		l, _, _ := solve.Solve(p)
		want := clone(l)
		for i, x := range l {
			for k, row := range rows(x) {
				if !equalRows(row, rows(want[i])[k]) {
					t.Fatalf("row %d of picture %d was changed with another one, to %v", k, i, row)
				}
				for m, g := range row {
					if !slices.Equal(g.Sites, rows(want[i])[k][m].Sites) {
						t.Fatalf("sites were changed with others, to %v", g.Sites)
					}
					scribble([]api.Guess{g})
				}
				scribble(row)
			}
			clear(x.Fields[:cap(x.Fields)])
		}
		if again, _, _ := solve.Solve(p); showAll(again) != showAll(want) {
			t.Errorf("%v is solved otherwise after its pictures were changed", p)
		}
	}
}

// roomy makes all lists of a picture anew, each with spare room behind it.
func roomy(x api.Picture) api.Picture {
	room := func(l []api.Guess) []api.Guess {
		l = append(slices.Clone(l), may(just(-7)), may(things(-7)))
		for i := range l {
			l[i].Sites = append(slices.Clone(l[i].Sites), -7, -7)[:len(l[i].Sites)]
		}
		return l[:len(l)-2]
	}
	y := api.Picture{None: x.None, Vars: room(x.Vars)}
	for _, l := range x.Fields {
		y.Fields = append(y.Fields, room(l))
	}
	y.Fields = append(y.Fields, room(nil))[:len(y.Fields)]
	return y
}

// spread is all that lies in lists of pictures, and in their spare room, in new memory.
func spread(pictures []api.Picture) [][]api.Guess {
	var all [][]api.Guess
	for _, x := range pictures[:cap(pictures)] {
		x.Fields = x.Fields[:cap(x.Fields)]
		for _, l := range rows(x) {
			l = slices.Clone(l[:cap(l)])
			for i := range l {
				l[i].Sites = slices.Clone(l[i].Sites[:cap(l[i].Sites)])
			}
			all = append(all, l)
		}
	}
	return all
}

func TestP2WhatIsHandedInIsOnlyRead(t *testing.T) {
	p := linked(t)
	p.Code = append(p.Code, api.Instr{Kind: 99}, api.Instr{Kind: 98})
	kept := slices.Clone(p.Code)
	p.Code = p.Code[:len(p.Code)-2]
	l, _, _ := solve.Solve(p)
	want := showAll(l)
	pictures := make([]api.Picture, 0, len(l)+2)
	for _, x := range append(clone(l), l[3], none()) {
		pictures = append(pictures, roomy(x))
	}
	pictures = pictures[:len(l)]
	before := spread(pictures)
	fits(t, "roomy", p, pictures, true)
	pictures[4] = roomy(l[0])
	changed := spread(pictures)
	fits(t, "roomy, and spoilt", p, pictures, false)
	if !reflect.DeepEqual(spread(pictures), changed) || reflect.DeepEqual(before, changed) {
		t.Error("pictures that were handed in were changed")
	}
	pictures[4] = roomy(clone(l)[4])
	if !reflect.DeepEqual(spread(pictures), before) || !slices.Equal(p.Code[:len(kept)], kept) {
		t.Error("what was handed in was changed")
	}
	clear(p.Code)
	if showAll(l) != want {
		t.Error("pictures were changed with the program")
	}
}

func TestP3TheSameEachTime(t *testing.T) {
	r := rand.New(rand.NewSource(5))
	for range 40 {
		p, q := draw(t, r), draw(t, r)
		l, n, e := solve.Solve(p)
		spoilt := clone(l)
		spoilt[r.Intn(len(l))] = none()
		ok, f := solve.Fits(p, spoilt)
		m, _, _ := solve.Solve(q)
		solve.Fits(q, m)
		solve.Fits(q, l)
		again, k, g := solve.Solve(p)
		okAgain, h := solve.Fits(p, spoilt)
		if showAll(l) != showAll(again) || n != k || e != g || ok != okAgain || f != h {
			t.Fatalf("%v is solved otherwise another time", p)
		}
	}
}

func TestP4LongLists(t *testing.T) {
	p := linked(t)
	misfit(t, "many pictures", p, make([]api.Picture, 1<<20), api.ErrForm)
	l, _, _ := solve.Solve(p)
	l[5].Vars = make([]api.Guess, 1<<20)
	misfit(t, "many variables", p, l, api.ErrForm)
	l, _, _ = solve.Solve(p)
	l[5].Vars[0].Sites = slices.Repeat([]int{1}, 1<<20)
	misfit(t, "many sites", p, l, api.ErrState)
}
