package step_test

import (
	"math"
	"math/rand"
	"reflect"
	"slices"
	"strings"
	"testing"

	"soundings/api"
	"soundings/code"
	"soundings/guess"
	"soundings/picture"
	"soundings/run"
	"soundings/step"
)

const (
	least = -2147483648
	most  = 2147483647
)

func parse(t *testing.T, text string) api.Program {
	t.Helper()
	p, line, e := code.Parse(text)
	if e != api.OK {
		t.Fatalf("%q: %d at %d", text, e, line)
	}
	return p
}

// around is a program with a line at place 2, behind sites 0 and 1 and ahead of site 3.
func around(t *testing.T, line string) api.Program {
	t.Helper()
	return parse(t, "vars 4 fields 2\nnew 0\nnew 1\n"+line+"\nnew 0\n")
}

// maybe is a part of a guess.
type maybe func(g *api.Guess)

func null(g *api.Guess)     { g.Null = true }
func yes(g *api.Guess)      { g.True = true }
func no(g *api.Guess)       { g.False = true }
func things(l ...int) maybe { return func(g *api.Guess) { g.Sites = l } }

// from lo to hi.
func from(lo, hi int) maybe { return func(g *api.Guess) { g.Span = api.Span{Lo: lo, Hi: hi} } }

// just one number.
func just(n int) maybe { return from(n, n) }

// may is the guess that has just these parts.
func may(parts ...maybe) api.Guess {
	g := api.Guess{Span: api.Span{None: true}}
	for _, part := range parts {
		part(&g)
	}
	return g
}

// change of a picture.
type change func(x *api.Picture)

// is: a variable is what may be just these parts.
func is(v int, parts ...maybe) change {
	return func(x *api.Picture) { x.Vars[v] = may(parts...) }
}

// field of a site is what may be just these parts.
func field(site, n int, parts ...maybe) change {
	return func(x *api.Picture) { x.Fields[site][n] = may(parts...) }
}

// blank picture of a program: all may be nothing.
func blank(p api.Program) api.Picture {
	x := api.Picture{Vars: slices.Repeat([]api.Guess{may()}, p.Vars)}
	for range p.Code {
		x.Fields = append(x.Fields, slices.Repeat([]api.Guess{may()}, p.Fields))
	}
	return x
}

// varied picture of a program of around: all is something else.
func varied(p api.Program, changes ...change) api.Picture {
	x := blank(p)
	changes = append([]change{
		is(0, null, from(3, 4), things(0)), is(1, yes), is(2, things(0, 1)), is(3, from(-2, 2)),
		field(0, 0, just(7)), field(0, 1, null, things(3)), field(1, 0, yes, things(1)), field(3, 0, just(9), things(0)), field(3, 1, no),
	}, changes...)
	for _, c := range changes {
		c(&x)
	}
	return x
}

func none() api.Picture { return api.Picture{None: true} }

// equal guesses: a list without elements may be nil or not.
func equal(g, h api.Guess) bool {
	return g.Null == h.Null && g.Span == h.Span && g.True == h.True && g.False == h.False && slices.Equal(g.Sites, h.Sites)
}

func equalRows(l, m []api.Guess) bool { return slices.EqualFunc(l, m, equal) }

func alike(x, y api.Picture) bool {
	return x.None == y.None && equalRows(x.Vars, y.Vars) && slices.EqualFunc(x.Fields, y.Fields, equalRows)
}

func alikeEdges(l, m []api.Edge) bool {
	return slices.EqualFunc(l, m, func(x, y api.Edge) bool { return x.To == y.To && alike(x.Picture, y.Picture) })
}

// goes on at a place, with these changes of the picture.
type goes struct {
	to      int
	changes []change
}

// next place behind that of the line of around.
func next(changes ...change) []goes { return []goes{{3, changes}} }

// stepped: what comes of a line, from varied with some changes.
func stepped(t *testing.T, line string, changes []change, edges []goes, wrong, failed bool) {
	t.Helper()
	p := around(t, line)
	var want []api.Edge
	for _, g := range edges {
		want = append(want, api.Edge{To: g.to, Picture: varied(p, slices.Concat(changes, g.changes)...)})
	}
	x := varied(p, changes...)
	l, w, f, e := step.Step(p, 2, x)
	if !alikeEdges(l, want) || w != wrong || f != failed || e != api.OK {
		t.Errorf("%s from %v is\n%v, %v %v %d, not\n%v, %v %v", line, x, l, w, f, e, want, wrong, failed)
	}
}

// with these changes.
func with(changes ...change) []change { return changes }

func TestF1Errors(t *testing.T) {
	p := around(t, "print 0")
	begin, _ := picture.Begin(p)
	refused := func(what string, p api.Program, at int, x api.Picture, want api.Errno) {
		t.Helper()
		if l, wrong, failed, e := step.Step(p, at, x); len(l) > 0 || wrong || failed || e != want {
			t.Errorf("%s, at %d: %v, %v, %v, %d, not %d", what, at, l, wrong, failed, e, want)
		}
	}
	short, state := begin, varied(p, field(2, 0, null))
	short.Vars = short.Vars[1:]
	for _, at := range []int{-1, 4, 5, 0, 3, math.MinInt, math.MaxInt} {
		refused("a wrong program", api.Program{}, at, begin, api.ErrRange)
		refused("a wrong program", api.Program{Vars: 1, Code: make([]api.Instr, 1)}, at, none(), api.ErrKind)
		refused("too few variables", p, at, short, api.ErrForm)
		refused("nothing there", p, at, api.Picture{}, api.ErrForm)
		refused("none with variables", p, at, api.Picture{None: true, Vars: begin.Vars}, api.ErrForm)
		refused("a wrong guess", p, at, varied(p, is(3, things(2))), api.ErrNone)
		refused("a wrong guess", p, at, varied(p, is(3, from(0, most+1))), api.ErrRange)
		refused("a field at no site", p, at, state, api.ErrState)
		if at < 0 || at > 3 {
			refused("no instruction", p, at, begin, api.ErrNone)
			refused("no instruction", p, at, none(), api.ErrNone)
		}
	}
	bare := parse(t, "vars 1 fields 0\n")
	begin, _ = picture.Begin(bare)
	refused("no code", bare, 0, begin, api.ErrNone)
	refused("no code", bare, 0, none(), api.ErrNone)
}

func TestF1OfNone(t *testing.T) {
	for _, line := range kinds() {
		p := around(t, line)
		for at := range p.Code {
			for _, x := range []api.Picture{none(), {None: true, Vars: []api.Guess{}, Fields: [][]api.Guess{}}} {
				if l, wrong, failed, e := step.Step(p, at, x); len(l) > 0 || wrong || failed || e != api.OK {
					t.Errorf("%s of none: %v, %v, %v, %d", line, l, wrong, failed, e)
				}
			}
		}
	}
}

// kinds has a line of each kind.
func kinds() []string {
	return strings.Split("number 0 5,truth 0 1,null 0,copy 1 0,add 0 1 2,sub 2 1 0,mul 1 1 1,less 0 1 3,same 2 0 1,not 0 1,new 3,get 0 2 1,put 2 1 0,input 3 10,if 0 1,goto 4,expect 0,print 0,end", ",")
}

func TestF2WhatIsJustThat(t *testing.T) {
	stepped(t, "number 1 5", nil, next(is(1, just(5))), false, false)
	stepped(t, "number 0 0", nil, next(is(0, just(0))), false, false)
	stepped(t, "number 3 -2147483648", nil, next(is(3, just(least))), false, false)
	stepped(t, "number 2 2147483647", nil, next(is(2, just(most))), false, false)
	stepped(t, "truth 0 1", nil, next(is(0, yes)), false, false)
	stepped(t, "truth 1 0", nil, next(is(1, no)), false, false)
	stepped(t, "null 2", nil, next(is(2, null)), false, false)
	stepped(t, "input 1 10", nil, next(is(1, from(-10, 10))), false, false)
	stepped(t, "input 1 0", nil, next(is(1, just(0))), false, false)
	stepped(t, "input 2 1000000", nil, next(is(2, from(-1000000, 1000000))), false, false)
	for _, line := range []string{"number 0 5", "truth 0 1", "null 0", "input 0 5"} {
		if p := around(t, line); len(edgesOf(t, p, 2, blank(p))) != 1 {
			t.Errorf("%s from what may be nothing has no edge", line)
		}
	}
}

func edgesOf(t *testing.T, p api.Program, at int, x api.Picture) []api.Edge {
	t.Helper()
	l, _, _, e := step.Step(p, at, x)
	if e != api.OK {
		t.Fatal(e)
	}
	return l
}

func TestF2Reckoning(t *testing.T) {
	stepped(t, "copy 1 0", nil, next(is(1, null, from(3, 4), things(0))), false, false)
	stepped(t, "copy 2 2", nil, next(), false, false)
	stepped(t, "add 1 3 3", nil, next(is(1, from(-4, 4))), false, false)
	stepped(t, "add 3 3 0", nil, next(is(3, from(1, 6))), true, false)
	stepped(t, "sub 1 0 3", nil, next(is(1, from(1, 6))), true, false)
	stepped(t, "sub 1 3 0", nil, next(is(1, from(-6, -1))), true, false)
	stepped(t, "mul 1 3 3", nil, next(is(1, from(-4, 4))), false, false)
	stepped(t, "mul 1 3 3", with(is(3, from(-2, most))), next(is(1, from(least, most))), false, false)
	stepped(t, "less 1 3 0", nil, next(is(1, yes)), true, false)
	stepped(t, "less 1 0 3", nil, next(is(1, no)), true, false)
	stepped(t, "less 1 3 3", nil, next(is(1, yes, no)), false, false)
	stepped(t, "same 1 0 2", nil, next(is(1, yes, no)), false, false)
	stepped(t, "same 3 1 1", nil, next(is(3, yes)), false, false)
	stepped(t, "same 1 1 3", nil, next(is(1, no)), false, false)
	stepped(t, "not 0 0", nil, next(is(0, yes, no)), false, false)
	stepped(t, "not 0 1", nil, next(is(0, no)), false, false)
	stepped(t, "not 2 2", nil, next(is(2, no)), false, false)
	five := with(is(0, null, just(5)), is(3, just(5)))
	stepped(t, "add 1 0 3", five, next(is(1, just(10))), true, false)
}

func TestF2NothingComes(t *testing.T) {
	for _, line := range []string{"add 3 1 3", "sub 3 3 1", "mul 0 2 2", "less 1 2 3", "less 1 3 2"} {
		stepped(t, line, nil, nil, true, false)
	}
	blankThree := with(is(3))
	for _, line := range []string{"copy 0 3", "add 0 3 3", "add 0 3 1", "sub 1 0 3", "mul 1 3 0", "less 1 3 3", "less 0 3 0", "same 1 3 3", "same 1 0 3", "same 1 3 0", "not 1 3", "get 1 3 0", "put 3 0 1"} {
		stepped(t, line, blankThree, nil, false, false)
	}
}

func TestF2AsChapter4Says(t *testing.T) {
	r := rand.New(rand.NewSource(1))
	for _, line := range []string{"copy 2 0", "add 2 0 1", "sub 2 0 1", "mul 2 0 1", "less 2 0 1", "same 2 0 1", "not 2 0"} {
		p := around(t, line)
		edges, wrongs := 0, 0
		for range 300 {
			x := drawPicture(r, p)
			want, wantWrong, _ := guess.Do(p, p.Code[2].Kind, x.Vars[0], x.Vars[1])
			l, wrong, failed, e := step.Step(p, 2, x)
			if wrong != wantWrong || failed || e != api.OK {
				t.Fatalf("%s from %v: %v, %v, %d", line, x, wrong, failed, e)
			}
			if wrong {
				wrongs++
			}
			if equal(want, may()) {
				if len(l) > 0 {
					t.Fatalf("%s from %v has edges: %v", line, x, l)
				}
				continue
			}
			edges++
			x.Vars[2] = want
			if !alikeEdges(l, []api.Edge{{To: 3, Picture: x}}) {
				t.Fatalf("%s is %v, not to 3 with %v", line, l, x)
			}
		}
		if edges < 50 || wrongs < 50 && slices.Contains([]string{"add", "sub", "mul", "les"}, line[:3]) {
			t.Errorf("%s has %d edges, and is wrong %d times", line, edges, wrongs)
		}
	}
}

func TestF2New(t *testing.T) {
	stepped(t, "new 1", nil, next(is(1, things(2)), field(2, 0, null), field(2, 1, null)), false, false)
	was := with(is(0, things(2)), field(2, 0, just(5), things(2)), field(2, 1, null, yes))
	stepped(t, "new 0", was, next(field(2, 0, null, just(5), things(2)), field(2, 1, null, yes)), false, false)
	p := parse(t, "vars 1 fields 0\nnew 0\n")
	x, _ := picture.Begin(p)
	want := blank(p)
	want.Vars[0] = may(things(0))
	if l, wrong, failed, e := step.Step(p, 0, x); !alikeEdges(l, []api.Edge{{To: 1, Picture: want}}) || wrong || failed || e != api.OK {
		t.Errorf("a thing without fields: %v, %v, %v, %d", l, wrong, failed, e)
	}
}

func TestF2Get(t *testing.T) {
	stepped(t, "get 1 2 0", nil, next(is(1, just(7), yes, things(1))), false, false)
	stepped(t, "get 2 2 0", nil, next(is(2, just(7), yes, things(1))), false, false)
	stepped(t, "get 1 2 1", nil, next(is(1, null, things(3))), false, false)
	stepped(t, "get 1 0 0", nil, next(is(1, just(7))), true, false)
	stepped(t, "get 1 2 0", with(is(2, things(0, 1, 3))), next(is(1, from(7, 9), yes, things(0, 1))), false, false)
	stepped(t, "get 1 2 1", with(is(2, things(3))), next(is(1, no)), false, false)
	for _, other := range []maybe{null, just(0), just(5), yes, no} {
		stepped(t, "get 1 2 0", with(is(2, other, things(0))), next(is(1, just(7))), true, false)
		stepped(t, "get 1 2 0", with(is(2, other)), nil, true, false)
		stepped(t, "get 1 2 1", with(is(2, other, things(1))), nil, true, false)
	}
	stepped(t, "get 1 2 1", with(is(2, things(1))), nil, false, false)
	stepped(t, "get 1 2 1", with(is(2)), nil, false, false)
}

func TestF2Put(t *testing.T) {
	stepped(t, "put 2 0 1", nil, next(field(0, 0, just(7), yes)), false, false)
	stepped(t, "put 2 1 3", nil, next(field(0, 1, null, from(-2, 2), things(3)), field(1, 1, from(-2, 2))), false, false)
	stepped(t, "put 2 0 2", nil, next(field(0, 0, just(7), things(0, 1)), field(1, 0, yes, things(0, 1))), false, false)
	stepped(t, "put 0 0 3", nil, next(field(0, 0, from(-2, 7))), true, false)
	stepped(t, "put 2 0 3", with(is(2, things(3))), next(field(3, 0, from(-2, 9), things(0))), false, false)
	for _, other := range []maybe{null, just(0), just(5), yes, no} {
		stepped(t, "put 2 0 1", with(is(2, other, things(0))), next(field(0, 0, just(7), yes)), true, false)
		stepped(t, "put 2 0 1", with(is(2, other)), nil, true, false)
	}
	stepped(t, "put 2 0 1", with(is(2)), nil, false, false)
	stepped(t, "put 2 0 1", with(is(1)), next(), false, false)
	stepped(t, "put 2 0 1", with(is(1), is(2, null, things(0))), next(), true, false)
}

func TestF2ToTheNextPlace(t *testing.T) {
	for _, line := range kinds() {
		if slices.Contains([]string{"if 0 1", "goto 4", "end"}, line) {
			continue
		}
		p := parse(t, "vars 4 fields 2\nnew 2\n"+line+"\n")
		x := blank(p)
		x.Vars[0], x.Vars[1], x.Vars[3] = may(just(3)), may(just(3)), may(just(3))
		x.Vars[2], x.Fields[0][1] = may(just(2), things(0)), may(null)
		if l := edgesOf(t, p, 1, x); len(l) != 1 || l[0].To != 2 {
			t.Errorf("%s as the last one goes on at %v", line, l)
		}
	}
}

// choices are guesses at what is asked in CodeIf and CodeExpect, and what comes of them on both edges (nil: there is none).
func choices() []struct{ asked, whenTrue, whenFalse []maybe } {
	return []struct{ asked, whenTrue, whenFalse []maybe }{
		{[]maybe{}, nil, nil},
		{[]maybe{null}, nil, []maybe{null}},
		{[]maybe{yes}, []maybe{yes}, nil},
		{[]maybe{no}, nil, []maybe{no}},
		{[]maybe{yes, no}, []maybe{yes}, []maybe{no}},
		{[]maybe{things(0, 1)}, []maybe{things(0, 1)}, nil},
		{[]maybe{null, things(1)}, []maybe{things(1)}, []maybe{null}},
		{[]maybe{just(0)}, nil, []maybe{just(0)}},
		{[]maybe{just(1)}, []maybe{just(1)}, nil},
		{[]maybe{just(-1)}, []maybe{just(-1)}, nil},
		{[]maybe{from(0, 1)}, []maybe{just(1)}, []maybe{just(0)}},
		{[]maybe{from(-1, 0)}, []maybe{just(-1)}, []maybe{just(0)}},
		{[]maybe{from(0, most)}, []maybe{from(1, most)}, []maybe{just(0)}},
		{[]maybe{from(least, 0)}, []maybe{from(least, -1)}, []maybe{just(0)}},
		{[]maybe{from(-1, 1)}, []maybe{from(-1, 1)}, []maybe{just(0)}},
		{[]maybe{from(least, most)}, []maybe{from(least, most)}, []maybe{just(0)}},
		{[]maybe{from(1, 9)}, []maybe{from(1, 9)}, nil},
		{[]maybe{from(-9, -1)}, []maybe{from(-9, -1)}, nil},
		{[]maybe{just(0), yes}, []maybe{yes}, []maybe{just(0)}},
		{[]maybe{from(1, 9), null}, []maybe{from(1, 9)}, []maybe{null}},
		{[]maybe{from(-9, -1), no}, []maybe{from(-9, -1)}, []maybe{no}},
		{[]maybe{null, from(0, 5), yes, no, things(0, 3)}, []maybe{from(1, 5), yes, things(0, 3)}, []maybe{null, just(0), no}},
	}
}

// edge to a place where a variable is less than it was, or none.
func lessOn(to, v int, parts []maybe) []goes {
	if parts == nil {
		return nil
	}
	return []goes{{to, with(is(v, parts...))}}
}

func TestF3If(t *testing.T) {
	for _, c := range choices() {
		for v, line := range []string{"if 0 ", "if 1 ", "if 2 ", "if 3 "} {
			for to, place := range []string{"0", "1", "2", "3", "4"} {
				edges := slices.Concat(lessOn(to, v, c.whenTrue), lessOn(3, v, c.whenFalse))
				stepped(t, line+place, with(is(v, c.asked...)), edges, false, false)
			}
		}
	}
}

func TestF3Expect(t *testing.T) {
	for _, c := range choices() {
		for v, line := range []string{"expect 0", "expect 1", "expect 2", "expect 3"} {
			stepped(t, line, with(is(v, c.asked...)), lessOn(3, v, c.whenTrue), false, c.whenFalse != nil)
		}
	}
}

func TestF3OthersChangeNothing(t *testing.T) {
	for to, line := range []string{"goto 0", "goto 1", "goto 2", "goto 3", "goto 4"} {
		stepped(t, line, nil, []goes{{to, nil}}, false, false)
		stepped(t, line, with(is(0)), []goes{{to, nil}}, false, false)
	}
	for _, parts := range [][]maybe{{}, {null}, {just(0)}, {no}, {yes, things(1)}} {
		stepped(t, "print 1", with(is(1, parts...)), next(), false, false)
		stepped(t, "end", with(is(0, parts...)), nil, false, false)
	}
}

// drawGuess draws a guess in a program.
func drawGuess(r *rand.Rand, p api.Program) api.Guess {
	g := may()
	g.Null, g.True, g.False = r.Intn(3) == 0, r.Intn(4) == 0, r.Intn(4) == 0
	if r.Intn(2) > 0 {
		lo := []int{least, -3, -1, 0, 1, most - 4}[r.Intn(6)]
		g.Span = api.Span{Lo: lo, Hi: lo + r.Intn(4)}
	}
	for at, x := range p.Code {
		if x.Kind == api.CodeNew && r.Intn(2) > 0 {
			g.Sites = append(g.Sites, at)
		}
	}
	return g
}

// drawPicture draws a picture of a program.
func drawPicture(r *rand.Rand, p api.Program) api.Picture {
	x := blank(p)
	for i := range x.Vars {
		x.Vars[i] = drawGuess(r, p)
	}
	for site := range x.Fields {
		for i := range x.Fields[site] {
			if p.Code[site].Kind == api.CodeNew {
				x.Fields[site][i] = drawGuess(r, p)
			}
		}
	}
	return x
}

// valuesOf a guess: some that it holds, of things those that there are.
func valuesOf(g api.Guess, l []api.Thing) []api.Value {
	var values []api.Value
	if g.Null {
		values = append(values, api.Value{})
	}
	for n := g.Span.Lo; !g.Span.None && n <= g.Span.Hi; n++ {
		values = append(values, api.Value{Kind: api.ValueNumber, N: n})
	}
	if g.True {
		values = append(values, api.Value{Kind: api.ValueTruth, N: 1})
	}
	if g.False {
		values = append(values, api.Value{Kind: api.ValueTruth})
	}
	for i, thing := range l {
		if slices.Contains(g.Sites, thing.Site) {
			values = append(values, api.Value{Kind: api.ValueThing, N: i})
		}
	}
	return values
}

// drawRun draws a run at a place that a picture shows, if there is one with two things of each site.
func drawRun(r *rand.Rand, p api.Program, at int, x api.Picture) (api.Run, bool) {
	q := api.Run{At: at, Taken: r.Intn(3)}
	for site, x := range p.Code {
		if x.Kind == api.CodeNew {
			q.Things = append(q.Things, api.Thing{Site: site}, api.Thing{Site: site})
		}
	}
	pick := func(guesses []api.Guess) []api.Value {
		var picked []api.Value
		for _, g := range guesses {
			if l := valuesOf(g, q.Things); len(l) > 0 {
				picked = append(picked, l[r.Intn(len(l))])
			}
		}
		return picked
	}
	q.Vars = pick(x.Vars)
	for i, thing := range q.Things {
		q.Things[i].Fields = pick(x.Fields[thing.Site])
	}
	ok, e := picture.Holds(p, x, q)
	return q, ok && e == api.OK
}

// shownOn: is there an edge on which a run goes on?
func shownOn(t *testing.T, p api.Program, l []api.Edge, q api.Run) bool {
	t.Helper()
	return slices.ContainsFunc(l, func(x api.Edge) bool {
		ok, e := picture.Holds(p, x.Picture, q)
		if e != api.OK {
			t.Fatal(e)
		}
		return x.To == q.At && ok
	})
}

func TestF4WhatARunDoesIsShown(t *testing.T) {
	r := rand.New(rand.NewSource(2))
	ends := map[int]int{}
	for _, line := range append(kinds(), "if 1 3", "add 1 1 1", "less 2 2 0", "get 2 2 0", "put 0 0 0", "not 2 2", "copy 0 2", "sub 3 3 3", "mul 3 2 3") {
		p := around(t, line)
		steps := 0
		for range 400 {
			x := drawPicture(r, p)
			q, ok := drawRun(r, p, 2, x)
			if !ok {
				continue
			}
			steps++
			l, wrong, failed, _ := step.Step(p, 2, x)
			after, e := run.Step(p, q, []int{r.Intn(30) - 15, math.MinInt, r.Intn(30) - 15})
			if e != api.OK {
				t.Fatal(e)
			}
			ends[after.End]++
			if after.End == 0 && !shownOn(t, p, l, after) {
				t.Fatalf("%s from %v: %v comes to %v, and no edge of %v shows it", line, x, q, after, l)
			}
			if after.End == api.EndWrong && !wrong || after.End == api.EndFailed && !failed {
				t.Fatalf("%s from %v: %v ends by %d, and that is not told", line, x, q, after.End)
			}
		}
		if steps < 100 {
			t.Errorf("%s: only %d runs were stepped", line, steps)
		}
	}
	for _, end := range []int{0, api.EndDone, api.EndWrong, api.EndFailed} {
		if ends[end] < 40 {
			t.Errorf("only %d runs ended by %d", ends[end], end)
		}
	}
}

// follow a run edge by edge, by the pictures of all that came to a place till now.
func follow(t *testing.T, p api.Program, at []api.Picture, inputs []int) {
	t.Helper()
	q, _ := run.Begin(p)
	for range 60 {
		if q.At == len(p.Code) {
			return
		}
		l, wrong, failed, _ := step.Step(p, q.At, at[q.At])
		q, _ = run.Step(p, q, inputs)
		if q.End == api.EndWrong && !wrong || q.End == api.EndFailed && !failed {
			t.Fatalf("%v: %v ended, and that is not told", p, q)
		}
		if q.End != 0 {
			return
		}
		if !shownOn(t, p, l, q) {
			t.Fatalf("%v: no edge of %v shows %v", p, l, q)
		}
		for _, x := range l {
			at[x.To], _ = picture.Join(p, at[x.To], x.Picture)
		}
	}
}

func TestF4RunsFromTheBeginning(t *testing.T) {
	for _, text := range []string{
		"vars 3 fields 0\nnumber 0 0\nnumber 1 1\ninput 2 10\nadd 0 0 1\nprint 0\nsub 2 2 1\nif 2 3\nend\n",
		"vars 4 fields 1\ninput 0 4\nnull 1\nnumber 3 1\nif 0 6\nput 1 0 1\nend\nnew 2\nput 2 0 1\ncopy 1 2\nsub 0 0 3\ngoto 3\n",
		"vars 3 fields 2\ninput 0 1\nif 0 4\nnew 1\ngoto 5\nnew 1\nput 1 1 0\nget 2 1 1\nexpect 2\nget 2 1 0\nnot 2 2\nexpect 2\nadd 2 0 2\n",
	} {
		p := parse(t, text)
		at := slices.Repeat([]api.Picture{none()}, len(p.Code)+1)
		at[0], _ = picture.Begin(p)
		for input := -6; input <= 6; input++ {
			follow(t, p, at, []int{input})
		}
	}
}

func TestP1WhateverIsHandedIn(t *testing.T) {
	r := rand.New(rand.NewSource(3))
	odd := []int{math.MinInt, least - 1, -1, 2, 4, most + 1, math.MaxInt}
	for range 200 {
		for _, line := range kinds() {
			p := around(t, line)
			x := drawPicture(r, p)
			switch r.Intn(4) {
			case 0:
				x.Vars[r.Intn(4)].Sites = []int{odd[r.Intn(7)]}
			case 1:
				x.Fields[r.Intn(4)][r.Intn(2)].Span.Hi = odd[r.Intn(7)]
			}
			at := r.Intn(7) - 1
			l, wrong, failed, e := step.Step(p, at, x)
			if e != api.OK && (len(l) > 0 || wrong || failed) {
				t.Fatalf("%s at %d from %v: %v, %v, %v, %d", line, at, x, l, wrong, failed, e)
			}
			for _, x := range l {
				if picture.Check(p, x.Picture) != api.OK || x.Picture.None || x.To < 0 || x.To > len(p.Code) {
					t.Fatalf("%s has the edge %v", line, x)
				}
			}
		}
	}
}

// lists of guesses of a picture.
func lists(x api.Picture) [][]api.Guess { return append([][]api.Guess{x.Vars}, x.Fields...) }

// roomy makes all lists of a picture anew, each with spare room behind it.
func roomy(x api.Picture) api.Picture {
	room := func(l []api.Guess) []api.Guess {
		l = append(slices.Clone(l), may(just(-7)), may(things(-7)))
		for i := range l {
			l[i].Sites = append(slices.Clone(l[i].Sites), -7, -7)[:len(l[i].Sites)]
		}
		return l[:len(l)-2]
	}
	y := api.Picture{None: x.None, Vars: room(x.Vars)}
	for _, l := range x.Fields {
		y.Fields = append(y.Fields, room(l))
	}
	y.Fields = append(y.Fields, room(nil))[:len(y.Fields)]
	return y
}

// spread is all that lies in a picture's lists, and in their spare room, in new memory.
func spread(x api.Picture) [][]api.Guess {
	var all [][]api.Guess
	for _, l := range append([][]api.Guess{x.Vars}, x.Fields[:cap(x.Fields)]...) {
		l = slices.Clone(l[:cap(l)])
		for i := range l {
			l[i].Sites = slices.Clone(l[i].Sites[:cap(l[i].Sites)])
		}
		all = append(all, l)
	}
	return all
}

// scribble over a list of guesses, and over its spare room.
func scribble(l []api.Guess) {
	for i := range l {
		sites := l[i].Sites[:cap(l[i].Sites)]
		for k := range sites {
			sites[k] = -9
		}
	}
	for i := range l[:cap(l)] {
		l[:cap(l)][i] = may(just(-9))
	}
}

func TestP2WhatIsHandedInIsOnlyRead(t *testing.T) {
	for _, line := range append(kinds(), "if 0 3") {
		p := around(t, line)
		kept := slices.Clone(p.Code)
		x := roomy(varied(p, is(1, just(5), things(1)), is(2, things(0, 1))))
		before := spread(x)
		unchanged := func(when string) {
			t.Helper()
			if !reflect.DeepEqual(spread(x), before) || !slices.Equal(p.Code, kept) {
				t.Fatalf("%s: what was handed in was changed %s", line, when)
			}
		}
		l, want := edgesOf(t, p, 2, x), edgesOf(t, p, 2, varied(p, is(1, just(5), things(1)), is(2, things(0, 1))))
		unchanged("by the call")
		for i, edge := range l {
			if !alikeEdges(l[i:], want[i:]) {
				t.Errorf("%s: an edge was changed with another one", line)
			}
			for k, row := range lists(edge.Picture) {
				if !equalRows(row, lists(want[i].Picture)[k]) {
					t.Errorf("%s: row %d was changed with another one", line, k)
				}
				scribble(row)
			}
			unchanged("with an edge")
		}
		l = edgesOf(t, p, 2, x)
		for _, row := range lists(x) {
			scribble(row)
		}
		if !alikeEdges(l, want) {
			t.Errorf("%s: an edge was changed with what was handed in", line)
		}
	}
}

func TestP2SitesAreNotShared(t *testing.T) {
	for _, line := range []string{"copy 0 2", "get 0 2 0", "put 2 0 2", "new 0", "goto 0", "if 2 3", "same 0 1 2"} {
		p := around(t, line)
		l := edgesOf(t, p, 2, varied(p))
		want := edgesOf(t, p, 2, varied(p))
		for i := range l {
			rows, wanted := lists(l[i].Picture), lists(want[i].Picture)
			for k := range rows {
				for n, g := range rows[k] {
					if !equal(g, wanted[k][n]) {
						t.Errorf("%s: %v was changed with another one, to %v", line, wanted[k][n], g)
					}
					for m := range g.Sites {
						g.Sites[m] = -9
					}
				}
			}
		}
	}
}

func TestP3TheSameEachTime(t *testing.T) {
	r := rand.New(rand.NewSource(4))
	for _, line := range kinds() {
		p := around(t, line)
		for range 20 {
			x := drawPicture(r, p)
			l, wrong, failed, e := step.Step(p, 2, x)
			step.Step(p, 3, x)
			step.Step(p, 2, drawPicture(r, p))
			m, wrongAgain, failedAgain, f := step.Step(p, 2, x)
			if !alikeEdges(l, m) || wrong != wrongAgain || failed != failedAgain || e != f {
				t.Fatalf("%s from %v is otherwise another time", line, x)
			}
		}
	}
}
