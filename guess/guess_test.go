package guess_test

import (
	"math"
	"math/rand"
	"slices"
	"testing"

	"soundings/api"
	"soundings/code"
	"soundings/guess"
	"soundings/run"
)

const (
	least = -2147483648
	most  = 2147483647
)

// program whose sites are 0, 2 and 3.
func program(t *testing.T) api.Program {
	t.Helper()
	p, line, e := code.Parse("vars 3 fields 1\nnew 0\nnull 0\nnew 0\nnew 1\nprint 0\n")
	if e != api.OK {
		t.Fatalf("%d at %d", e, line)
	}
	return p
}

// maybe is a part of a guess.
type maybe func(g *api.Guess)

func null(g *api.Guess)     { g.Null = true }
func yes(g *api.Guess)      { g.True = true }
func no(g *api.Guess)       { g.False = true }
func things(l ...int) maybe { return func(g *api.Guess) { g.Sites = l } }

// from lo to hi.
func from(lo, hi int) maybe { return func(g *api.Guess) { g.Span = api.Span{Lo: lo, Hi: hi} } }

// just one number.
func just(n int) maybe { return from(n, n) }

// may is the guess that has just these parts.
func may(parts ...maybe) api.Guess {
	g := api.Guess{Span: api.Span{None: true}}
	for _, part := range parts {
		part(&g)
	}
	return g
}

// equal guesses: a list without elements may be nil or not.
func equal(g, h api.Guess) bool {
	return g.Null == h.Null && g.Span == h.Span && g.True == h.True && g.False == h.False && slices.Equal(g.Sites, h.Sites)
}

// small guesses: all that may be null, numbers from -1 to 1, truths, and things of these lists of sites.
func small(sites ...[]int) []api.Guess {
	spans := []api.Span{{None: true}}
	for lo := -1; lo <= 1; lo++ {
		for hi := lo; hi <= 1; hi++ {
			spans = append(spans, api.Span{Lo: lo, Hi: hi})
		}
	}
	var l []api.Guess
	for bits := range 8 {
		for _, s := range spans {
			for _, sites := range sites {
				l = append(l, api.Guess{Null: bits&1 > 0, Span: s, True: bits&2 > 0, False: bits&4 > 0, Sites: sites})
			}
		}
	}
	return l
}

// made is a value of a run, with the site of a thing.
type made struct {
	api.Value
	site int
}

// universe is all that small guesses may be: of each site two things.
func universe() []made {
	l := []made{{}, {api.Value{Kind: api.ValueTruth, N: 1}, 0}, {api.Value{Kind: api.ValueTruth}, 0}}
	for n := -2; n <= 2; n++ {
		l = append(l, made{api.Value{Kind: api.ValueNumber, N: n}, 0})
	}
	for i, site := range []int{0, 0, 2, 2, 3, 3} {
		l = append(l, made{api.Value{Kind: api.ValueThing, N: i}, site})
	}
	return l
}

// isIn: does a guess hold a value, by the words of the type alone?
func isIn(g api.Guess, v made) bool {
	switch v.Kind {
	case api.ValueNull:
		return g.Null
	case api.ValueNumber:
		return !g.Span.None && g.Span.Lo <= v.N && v.N <= g.Span.Hi
	case api.ValueTruth:
		return v.N == 1 && g.True || v.N == 0 && g.False
	}
	return slices.Contains(g.Sites, v.site)
}

// all values of the universe that a guess holds.
func all(g api.Guess) []made {
	return slices.DeleteFunc(universe(), func(v made) bool { return !isIn(g, v) })
}

// counts: does a value count as true?
func counts(v made) bool {
	return v.Kind == api.ValueThing || v.Kind != api.ValueNull && v.N != 0
}

// wrongGuesses has guesses that are none, each with what Check says of it in program(t). Of several errors it is the first that D1 names.
func wrongGuesses() []struct {
	g    api.Guess
	want api.Errno
} {
	return []struct {
		g    api.Guess
		want api.Errno
	}{
		{may(from(least-1, 0)), api.ErrRange},
		{may(from(0, most+1), things(9)), api.ErrRange},
		{api.Guess{Span: api.Span{None: true, Hi: 1}}, api.ErrForm},
		{api.Guess{Span: api.Span{None: true, Hi: 1}, Sites: []int{1}}, api.ErrForm},
		{may(from(1, 0)), api.ErrState},
		{may(from(1, 0), things(1)), api.ErrState},
		{may(things(1)), api.ErrNone},
		{may(things(4)), api.ErrNone},
		{may(things(5)), api.ErrNone},
		{may(things(-1)), api.ErrNone},
		{may(things(math.MinInt)), api.ErrNone},
		{may(things(math.MaxInt)), api.ErrNone},
		{may(things(0, 2, 4)), api.ErrNone},
		{may(null, things(2, 0, 1)), api.ErrNone},
		{may(things(3, 3, -1)), api.ErrNone},
		{may(things(2, 0)), api.ErrState},
		{may(things(0, 0)), api.ErrState},
		{may(yes, things(0, 2, 3, 2)), api.ErrState},
		{may(things(0, 3, 2)), api.ErrState},
	}
}

// wrongPrograms has programs that Check of chapter 1 refuses, each by another error.
func wrongPrograms() map[api.Errno]api.Program {
	return map[api.Errno]api.Program{
		api.ErrRange: {},
		api.ErrMany:  {Vars: 1, Code: make([]api.Instr, 61)},
		api.ErrKind:  {Vars: 1, Code: make([]api.Instr, 1)},
		api.ErrNone:  {Vars: 1, Code: []api.Instr{{Kind: api.CodeNull, To: 1}}},
		api.ErrForm:  {Vars: 1, Code: []api.Instr{{Kind: api.CodeEnd, A: 1}}},
	}
}

func TestD1Check(t *testing.T) {
	p := program(t)
	for _, g := range []api.Guess{may(), {}, may(null), may(from(least, most)), may(yes, no), may(things(0)), may(things(2, 3)), may(null, just(5), yes, no, things(0, 2, 3)), {Span: api.Span{None: true}, Sites: []int{}}} {
		if e := guess.Check(p, g); e != api.OK {
			t.Errorf("Check of %v is %d", g, e)
		}
	}
	for _, c := range wrongGuesses() {
		if e := guess.Check(p, c.g); e != c.want {
			t.Errorf("Check of %v is %d, not %d", c.g, e, c.want)
		}
		for want, p := range wrongPrograms() {
			if e := guess.Check(p, c.g); e != want {
				t.Errorf("Check of %v in %v is %d, not %d", c.g, p, e, want)
			}
		}
	}
	if e := guess.Check(api.Program{Vars: 1}, may(things(0))); e != api.ErrNone {
		t.Errorf("Check of a site behind the last instruction is %d", e)
	}
}

// refusedOne: each call that looks at one guess answers this error, and nothing else.
func refusedOne(t *testing.T, p api.Program, g api.Guess, want api.Errno) {
	t.Helper()
	for kind := -1; kind <= 4; kind++ {
		if ok, e := guess.Holds(p, g, api.Value{Kind: kind}, 0); ok || e != want {
			t.Errorf("Holds of %v is %v, %d, not %d", g, ok, e, want)
		}
	}
	if yes, no, e := guess.Truth(p, g); yes || no || e != want {
		t.Errorf("Truth of %v is %v, %v, %d, not %d", g, yes, no, e, want)
	}
}

// refused: each call that looks at two guesses answers this error, and nothing else.
func refused(t *testing.T, p api.Program, g, h api.Guess, want api.Errno) {
	t.Helper()
	for kind := api.CodeNull; kind <= api.CodeNew; kind++ {
		if got, wrong, e := guess.Do(p, kind, g, h); !equal(got, api.Guess{}) || wrong || e != want {
			t.Errorf("kind %d of %v and %v is %v, %v, %d, not %d", kind, g, h, got, wrong, e, want)
		}
	}
	if got, e := guess.Join(p, g, h); !equal(got, api.Guess{}) || e != want {
		t.Errorf("Join of %v and %v is %v, %d, not %d", g, h, got, e, want)
	}
	if got, e := guess.Widen(p, g, h); !equal(got, api.Guess{}) || e != want {
		t.Errorf("Widen of %v and %v is %v, %d, not %d", g, h, got, e, want)
	}
	if ok, e := guess.Within(p, g, h); ok || e != want {
		t.Errorf("Within of %v and %v is %v, %d, not %d", g, h, ok, e, want)
	}
}

func TestD1OthersTellItFirst(t *testing.T) {
	p := program(t)
	rights := []api.Guess{may(), {}, may(null, yes), may(things(0, 2))}
	for _, c := range wrongGuesses() {
		refusedOne(t, p, c.g, c.want)
		for _, right := range rights {
			refused(t, p, c.g, right, c.want)
			refused(t, p, right, c.g, c.want)
		}
		for _, d := range wrongGuesses() {
			refused(t, p, c.g, d.g, c.want)
		}
	}
	for want, p := range wrongPrograms() {
		for _, g := range []api.Guess{may(), {}, may(from(1, 0)), may(things(-1))} {
			refusedOne(t, p, g, want)
			refused(t, p, g, g, want)
		}
	}
}

func TestD2JoinAndWiden(t *testing.T) {
	p := program(t)
	everything := may(null, from(least, most), yes, no, things(0, 2, 3))
	for _, c := range []struct{ g, h, join, widen api.Guess }{
		{may(), may(), may(), may()},
		{may(), everything, everything, everything},
		{everything, may(), everything, everything},
		{may(null), may(yes), may(null, yes), may(null, yes)},
		{may(no), may(yes), may(no, yes), may(no, yes)},
		{may(null), may(null), may(null), may(null)},
		{may(just(1)), may(just(5)), may(from(1, 5)), may(from(1, most))},
		{may(just(5)), may(just(1)), may(from(1, 5)), may(from(least, 5))},
		{may(just(5)), may(from(4, 6)), may(from(4, 6)), may(from(least, most))},
		{may(from(1, 5)), may(from(2, 4)), may(from(1, 5)), may(from(1, 5))},
		{may(null), may(from(2, 4)), may(null, from(2, 4)), may(null, from(2, 4))},
		{may(from(2, 4)), may(no), may(no, from(2, 4)), may(no, from(2, 4))},
		{may(things(0)), may(things(2)), may(things(0, 2)), may(things(0, 2))},
		{may(things(3)), may(things(0)), may(things(0, 3)), may(things(0, 3))},
		{may(things(0, 3)), may(things(2, 3)), may(things(0, 2, 3)), may(things(0, 2, 3))},
		{may(things(2)), may(), may(things(2)), may(things(2))},
		{may(), may(things(2, 3)), may(things(2, 3)), may(things(2, 3))},
	} {
		if got, e := guess.Join(p, c.g, c.h); !equal(got, c.join) || e != api.OK {
			t.Errorf("Join of %v and %v is %v, %d", c.g, c.h, got, e)
		}
		if got, e := guess.Widen(p, c.g, c.h); !equal(got, c.widen) || e != api.OK {
			t.Errorf("Widen of %v and %v is %v, %d", c.g, c.h, got, e)
		}
	}
}

func TestD2WithinAndJoinOfAllParts(t *testing.T) {
	p := program(t)
	guesses := small(nil, []int{0}, []int{0, 3})
	for _, g := range guesses {
		for _, h := range guesses {
			within := true
			for _, v := range all(g) {
				within = within && isIn(h, v)
			}
			if got, e := guess.Within(p, g, h); got != within || e != api.OK {
				t.Fatalf("%v is within %v: %v, %d", g, h, got, e)
			}
			join, e := guess.Join(p, g, h)
			if e != api.OK {
				t.Fatal(e)
			}
			for _, v := range universe() {
				between := v.Kind == api.ValueNumber && v.N == 0 && isIn(join, v) // A span has no gap.
				if isIn(join, v) != (isIn(g, v) || isIn(h, v)) && !between {
					t.Fatalf("Join of %v and %v is %v: %v", g, h, join, v)
				}
			}
		}
	}
}

func TestD2Holds(t *testing.T) {
	p := program(t)
	for _, g := range small(nil, []int{0}, []int{0, 3}) {
		for _, v := range universe() {
			if got, e := guess.Holds(p, g, v.Value, v.site); got != isIn(g, v) || e != api.OK {
				t.Fatalf("%v holds %v: %v, %d", g, v, got, e)
			}
		}
	}
	everything := may(null, from(least, most), yes, no, things(0, 2, 3))
	for _, c := range []struct {
		v    api.Value
		site int
		want bool
	}{
		{api.Value{Kind: api.ValueNumber, N: least}, 9, true},
		{api.Value{Kind: api.ValueNumber, N: most}, -9, true},
		{api.Value{Kind: api.ValueNumber, N: most + 1}, 0, false},
		{api.Value{Kind: api.ValueNumber, N: math.MinInt}, 0, false},
		{api.Value{Kind: api.ValueTruth, N: 2}, 0, false},
		{api.Value{Kind: api.ValueTruth, N: -1}, 0, false},
		{api.Value{Kind: api.ValueThing, N: 0}, 1, false},
		{api.Value{Kind: api.ValueThing, N: 0}, -1, false},
		{api.Value{Kind: api.ValueThing, N: 0}, math.MaxInt, false},
		{api.Value{Kind: api.ValueThing, N: 3}, 2, true},
		{api.Value{Kind: api.ValueThing, N: math.MaxInt}, 2, true}, // Which thing it is tells nothing.
		{api.Value{Kind: api.ValueNull, N: 5}, 0, true},            // A guess at null has no number.
	} {
		if got, e := guess.Holds(p, everything, c.v, c.site); got != c.want || e != api.OK {
			t.Errorf("everything holds %v of %d: %v, %d", c.v, c.site, got, e)
		}
	}
	for _, kind := range []int{-1, 4, math.MinInt, math.MaxInt} {
		if got, e := guess.Holds(p, everything, api.Value{Kind: kind}, 0); got || e != api.ErrKind {
			t.Errorf("everything holds kind %d: %v, %d", kind, got, e)
		}
	}
}

func TestD2Truth(t *testing.T) {
	p := program(t)
	for _, g := range small(nil, []int{0}, []int{0, 3}) {
		is := slices.ContainsFunc(all(g), counts)
		isNot := slices.ContainsFunc(all(g), func(v made) bool { return !counts(v) })
		if yes, no, e := guess.Truth(p, g); yes != is || no != isNot || e != api.OK {
			t.Errorf("Truth of %v is %v, %v, %d", g, yes, no, e)
		}
	}
	for _, c := range []struct {
		g       api.Guess
		yes, no bool
	}{
		{may(), false, false},
		{may(just(0)), false, true},
		{may(just(7)), true, false},
		{may(just(-7)), true, false},
		{may(from(0, most)), true, true},
		{may(from(least, 0)), true, true},
		{may(from(least, -1)), true, false},
		{may(from(least, most)), true, true},
	} {
		if yes, no, e := guess.Truth(p, c.g); yes != c.yes || no != c.no || e != api.OK {
			t.Errorf("Truth of %v is %v, %v, %d", c.g, yes, no, e)
		}
	}
}

// comes: what Do answers of two right guesses.
func comes(t *testing.T, kind int, g, h, want api.Guess, isWrong bool) {
	t.Helper()
	got, wrong, e := guess.Do(program(t), kind, g, h)
	if !equal(got, want) || wrong != isWrong || e != api.OK {
		t.Errorf("kind %d of %v and %v is %v, %v, %d, not %v, %v", kind, g, h, got, wrong, e, want, isWrong)
	}
}

func TestD3Reckoning(t *testing.T) {
	some := may(null, yes, no, things(0))
	for _, c := range []struct {
		kind    int
		g, h    api.Guess
		want    api.Guess
		isWrong bool
	}{
		{api.CodeAdd, may(null, just(5)), may(just(5)), may(just(10)), true},
		{api.CodeAdd, may(from(1, 2)), may(from(3, 5)), may(from(4, 7)), false},
		{api.CodeSub, may(from(1, 2)), may(from(3, 5)), may(from(-4, -1)), false},
		{api.CodeMul, may(from(1, 2)), may(from(3, 5)), may(from(3, 10)), false},
		{api.CodeAdd, may(just(most)), may(just(1)), may(from(least, most)), false},
		{api.CodeSub, may(just(least)), may(just(1), null), may(from(least, most)), true},
		{api.CodeMul, may(just(65536)), may(just(65536)), may(from(least, most)), false},
		{api.CodeAdd, may(just(1), yes), may(just(2)), may(just(3)), true},
		{api.CodeAdd, may(just(1)), may(just(2), no), may(just(3)), true},
		{api.CodeMul, may(just(1)), may(just(2), things(3)), may(just(2)), true},
		{api.CodeAdd, some, may(just(2)), may(), true},
		{api.CodeAdd, may(just(2)), some, may(), true},
		{api.CodeSub, some, some, may(), true},
		{api.CodeAdd, may(), may(just(2)), may(), false},
		{api.CodeSub, may(just(2)), may(), may(), false},
		{api.CodeMul, may(), some, may(), false},
		{api.CodeMul, some, may(), may(), false},
		{api.CodeAdd, may(), may(), may(), false},
	} {
		comes(t, c.kind, c.g, c.h, c.want, c.isWrong)
	}
}

func TestD3Less(t *testing.T) {
	some := may(null, yes, no, things(0))
	for _, c := range []struct {
		g, h    api.Guess
		want    api.Guess
		isWrong bool
	}{
		{may(just(1)), may(just(2)), may(yes), false},
		{may(just(2)), may(just(2)), may(no), false},
		{may(just(3)), may(just(2)), may(no), false},
		{may(from(1, 2)), may(from(3, 4)), may(yes), false},
		{may(from(1, 3)), may(from(3, 4)), may(yes, no), false},
		{may(from(3, 4)), may(from(1, 3)), may(no), false},
		{may(from(3, 4)), may(from(1, 4)), may(yes, no), false},
		{may(from(least, most)), may(just(least)), may(no), false},
		{may(just(most)), may(from(least, most)), may(no), false},
		{may(from(least, most)), may(just(most)), may(yes, no), false},
		{may(null, just(1)), may(just(2)), may(yes), true},
		{may(just(1)), may(things(2), just(1)), may(no), true},
		{some, may(just(2)), may(), true},
		{may(just(2)), some, may(), true},
		{may(), some, may(), false},
		{some, may(), may(), false},
		{may(), may(just(2)), may(), false},
		{may(just(2)), may(), may(), false},
	} {
		comes(t, api.CodeLess, c.g, c.h, c.want, c.isWrong)
	}
}

func TestD3Same(t *testing.T) {
	for _, c := range []struct{ g, h, want api.Guess }{
		{may(null), may(null), may(yes)},
		{may(just(7)), may(just(7)), may(yes)},
		{may(just(0)), may(just(0)), may(yes)},
		{may(yes), may(yes), may(yes)},
		{may(no), may(no), may(yes)},
		{may(things(0)), may(things(0)), may(yes, no)},
		{may(things(0, 2)), may(things(2, 3)), may(yes, no)},
		{may(things(0, 2)), may(things(3)), may(no)},
		{may(null), may(just(0)), may(no)},
		{may(no), may(just(0)), may(no)},
		{may(no), may(null), may(no)},
		{may(yes), may(just(1)), may(no)},
		{may(yes), may(no), may(no)},
		{may(just(0)), may(just(1)), may(no)},
		{may(yes, no), may(yes), may(yes, no)},
		{may(yes, no), may(no), may(yes, no)},
		{may(null), may(null, yes), may(yes, no)},
		{may(null, just(7)), may(just(7)), may(yes, no)},
		{may(null, things(0)), may(null), may(yes, no)},
		{may(null, things(0)), may(null, things(0)), may(yes, no)},
		{may(from(0, 1)), may(from(0, 1)), may(yes, no)},
		{may(from(0, 2)), may(from(2, 4)), may(yes, no)},
		{may(from(0, 2)), may(from(3, 4)), may(no)},
		{may(), may(), may()},
		{may(null), may(), may()},
		{may(), may(null), may()},
		{may(), may(yes, no, things(0)), may()},
		{may(from(0, 2)), may(), may()},
	} {
		comes(t, api.CodeSame, c.g, c.h, c.want, false)
		comes(t, api.CodeSame, c.h, c.g, c.want, false)
	}
}

func TestD3NotAndCopy(t *testing.T) {
	for _, h := range []api.Guess{may(), may(null), may(just(1), things(0)), {}} {
		for _, c := range []struct{ g, want api.Guess }{
			{may(), may()},
			{may(null), may(yes)},
			{may(just(0)), may(yes)},
			{may(no), may(yes)},
			{may(just(7)), may(no)},
			{may(yes), may(no)},
			{may(things(2)), may(no)},
			{may(from(0, 1)), may(yes, no)},
			{may(yes, no), may(yes, no)},
			{may(null, things(0, 3)), may(yes, no)},
		} {
			comes(t, api.CodeNot, c.g, h, c.want, false)
			comes(t, api.CodeCopy, c.g, h, c.g, false)
		}
	}
}

func TestD3Kinds(t *testing.T) {
	p := program(t)
	known := []int{api.CodeAdd, api.CodeSub, api.CodeMul, api.CodeLess, api.CodeSame, api.CodeNot, api.CodeCopy}
	for _, kind := range []int{math.MinInt, -1, 0, 1, 2, 3, 11, 12, 13, 14, 15, 16, 17, 18, 19, 20, math.MaxInt} {
		for _, g := range []api.Guess{may(), may(null), may(just(5))} {
			if got, wrong, e := guess.Do(p, kind, g, g); !equal(got, api.Guess{}) || wrong || e != api.ErrKind {
				t.Errorf("kind %d of %v is %v, %v, %d", kind, g, got, wrong, e)
			}
		}
	}
	for _, kind := range known {
		if _, _, e := guess.Do(p, kind, may(), may()); e != api.OK {
			t.Errorf("kind %d is %d", kind, e)
		}
	}
}

// outcome of a step: what comes of two values, and whether that was wrong.
type outcome struct {
	value made
	wrong bool
}

// stepped is what a run makes of two values.
func stepped(t *testing.T, kind int, v, w made) outcome {
	t.Helper()
	p := program(t)
	x := api.Instr{Kind: kind, To: 2, A: 0, B: 1}
	if kind == api.CodeNot || kind == api.CodeCopy {
		x.B = 0
	}
	p.Code = append(p.Code, x)
	r := api.Run{At: len(p.Code) - 1, Vars: []api.Value{v.Value, w.Value, {}}}
	for _, site := range []int{0, 0, 2, 2, 3, 3} {
		r.Things = append(r.Things, api.Thing{Site: site, Fields: make([]api.Value, 1)})
	}
	r, e := run.Step(p, r, nil)
	if e != api.OK {
		t.Fatal(e)
	}
	site := 0
	if kind == api.CodeCopy {
		site = v.site
	}
	return outcome{made{r.Vars[2], site}, r.End == api.EndWrong}
}

// table of what a run makes of each two values of the universe.
func table(t *testing.T, kind int) [][]outcome {
	l := universe()
	rows := make([][]outcome, len(l))
	for i, v := range l {
		for _, w := range l {
			rows[i] = append(rows[i], stepped(t, kind, v, w))
		}
	}
	return rows
}

// held: which values of the universe are held, by their numbers there.
func held(g api.Guess) []int {
	var l []int
	for i, v := range universe() {
		if isIn(g, v) {
			l = append(l, i)
		}
	}
	return l
}

// come: what comes of these values, as a guess that holds just that (sums, differences and products of small guesses have no gaps), and whether some of it is wrong.
func come(rows [][]outcome, l, m []int) (api.Guess, bool) {
	g, wrong := may(), false
	for _, i := range l {
		for _, k := range m {
			o := rows[i][k]
			switch n := o.value.N; {
			case o.wrong:
				wrong = true
			case o.value.Kind == api.ValueNull:
				g.Null = true
			case o.value.Kind == api.ValueNumber && g.Span.None:
				g.Span = api.Span{Lo: n, Hi: n}
			case o.value.Kind == api.ValueNumber:
				g.Span = api.Span{Lo: min(g.Span.Lo, n), Hi: max(g.Span.Hi, n)}
			case o.value.Kind == api.ValueTruth:
				g.True, g.False = g.True || n == 1, g.False || n == 0
			case !slices.Contains(g.Sites, o.value.site):
				g.Sites = append(g.Sites, o.value.site)
			}
		}
	}
	return g, wrong
}

// Of small guesses what comes of them is just what comes of their values: no value is missing (D4), and there is none too many (D3).
func TestD4WhatComesOfValuesIsHeld(t *testing.T) {
	p := program(t)
	guesses := small(nil, []int{0}, []int{0, 2})
	var values [][]int
	for _, g := range guesses {
		values = append(values, held(g))
	}
	everything := held(may(null, from(-2, 2), yes, no, things(0, 2, 3)))
	for kind := api.CodeCopy; kind <= api.CodeNot; kind++ {
		rows := table(t, kind)
		for i, g := range guesses {
			for k, h := range guesses {
				others := values[k]
				if kind == api.CodeNot || kind == api.CodeCopy {
					others = everything
				}
				want, isWrong := come(rows, values[i], others)
				got, wrong, e := guess.Do(p, kind, g, h)
				if !equal(got, want) || wrong != isWrong || e != api.OK {
					t.Fatalf("kind %d of %v and %v is %v, %v, %d, not %v, %v", kind, g, h, got, wrong, e, want, isWrong)
				}
			}
		}
	}
}

func TestD4OfGreatNumbers(t *testing.T) {
	p := program(t)
	r := rand.New(rand.NewSource(4))
	draw := func() int {
		near := []int{least, -65536, 0, 46341, most, int(int32(r.Uint32()))}[r.Intn(6)]
		return max(least, min(near+r.Intn(5)-2, most))
	}
	for range 20000 {
		var guesses [2]api.Guess
		var held [2]made
		for i := range guesses {
			a, b := draw(), draw()
			guesses[i] = may(from(min(a, b), max(a, b)))
			held[i] = made{api.Value{Kind: api.ValueNumber, N: []int{a, b}[r.Intn(2)]}, 0}
		}
		kind := api.CodeAdd + r.Intn(api.CodeNot-api.CodeAdd+1)
		o := stepped(t, kind, held[0], held[1])
		got, wrong, e := guess.Do(p, kind, guesses[0], guesses[1])
		if holds, f := guess.Holds(p, got, o.value.Value, 0); !holds || wrong || e != api.OK || f != api.OK {
			t.Fatalf("kind %d of %v is %v, %v, %d, without %v", kind, guesses, got, wrong, e, o.value)
		}
	}
}

func TestP1WhateverIsHandedIn(t *testing.T) {
	p := program(t)
	r := rand.New(rand.NewSource(5))
	odd := []int{math.MinInt, least - 1, least, -1, 0, 1, 2, 3, 4, most, most + 1, math.MaxInt}
	pick := func() int { return odd[r.Intn(len(odd))] }
	draw := func() api.Guess {
		g := api.Guess{Null: r.Intn(2) == 0, Span: api.Span{None: r.Intn(2) == 0}, True: r.Intn(2) == 0, False: r.Intn(2) == 0}
		if r.Intn(2) == 0 {
			g.Span.Lo, g.Span.Hi = pick(), pick()
		}
		for range r.Intn(4) {
			g.Sites = append(g.Sites, pick())
		}
		return g
	}
	for range 20000 {
		g, h, kind := draw(), draw(), r.Intn(22)-1
		got, wrong, e := guess.Do(p, kind, g, h)
		if e != api.OK && (wrong || !equal(got, api.Guess{})) || guess.Check(p, got) != api.OK {
			t.Fatalf("kind %d of %v and %v is %v, %v, %d", kind, g, h, got, wrong, e)
		}
		for _, call := range []func(p api.Program, g, h api.Guess) (api.Guess, api.Errno){guess.Join, guess.Widen} {
			if got, e := call(p, g, h); e != api.OK && !equal(got, api.Guess{}) || guess.Check(p, got) != api.OK {
				t.Fatalf("%v and %v are %v, %d", g, h, got, e)
			}
		}
		guess.Within(p, g, h)
		guess.Truth(p, g)
		guess.Holds(p, g, api.Value{Kind: pick(), N: pick()}, pick())
	}
}

// roomy sites: a list with spare room behind it, and all of that room.
func roomy(sites ...int) ([]int, []int) {
	room := append(slices.Clone(sites), -7, -7, -7, -7)
	return room[:len(sites)], room
}

// lists calls each call, and tells the lists of all answers.
func lists(t *testing.T, p api.Program, g, h api.Guess) [][]int {
	t.Helper()
	var l [][]int
	for kind := range 21 {
		got, _, _ := guess.Do(p, kind, g, h)
		l = append(l, got.Sites)
	}
	join, e := guess.Join(p, g, h)
	widen, f := guess.Widen(p, g, h)
	if e != api.OK || f != api.OK {
		t.Fatal(e, f)
	}
	guess.Check(p, g)
	guess.Within(p, g, h)
	guess.Truth(p, g)
	guess.Holds(p, g, api.Value{Kind: api.ValueThing}, 2)
	return append(l, join.Sites, widen.Sites)
}

func TestP2WhatIsHandedInIsOnlyRead(t *testing.T) {
	for _, c := range [][2][]int{{{0, 3}, {0, 2}}, {{0, 2}, {}}, {{}, {2, 3}}, {{0, 2, 3}, {0, 2, 3}}, {{0}, {2}}} {
		p := program(t)
		kept := slices.Clone(p.Code)
		gSites, gRoom := roomy(c[0]...)
		hSites, hRoom := roomy(c[1]...)
		gKept, hKept := slices.Clone(gRoom), slices.Clone(hRoom)
		g, h := may(null, things(gSites...)), may(just(3), things(hSites...))
		answers := lists(t, p, g, h)
		unchanged := func(when string) {
			if !slices.Equal(gRoom, gKept) || !slices.Equal(hRoom, hKept) || !slices.Equal(p.Code, kept) {
				t.Errorf("%s %v and %v were changed", when, c[0], c[1])
			}
		}
		unchanged("by a call")
		before := make([][]int, len(answers))
		for i, l := range answers {
			before[i] = slices.Clone(l)
		}
		for i := range gRoom {
			gRoom[i] = -9
		}
		for i := range hRoom {
			hRoom[i] = -9
		}
		for i, l := range answers {
			if !slices.Equal(l, before[i]) {
				t.Errorf("answer %d of %v and %v was changed later, to %v", i, c[0], c[1], l)
			}
		}
		copy(gRoom, gKept)
		copy(hRoom, hKept)
		for _, l := range answers {
			for i := range l[:cap(l)] {
				l[:cap(l)][i] = -8
			}
		}
		unchanged("by a change of an answer")
	}
}

func TestP3TheSameEachTime(t *testing.T) {
	p := program(t)
	guesses := small(nil, []int{2, 3})
	for i, g := range guesses {
		h := guesses[(i*7+3)%len(guesses)]
		for kind := range 21 {
			first, wrong, e := guess.Do(p, kind, g, h)
			guess.Do(p, kind, h, g)
			again, wrongAgain, f := guess.Do(p, kind, g, h)
			if !equal(first, again) || wrong != wrongAgain || e != f {
				t.Fatalf("kind %d of %v and %v is %v, then %v", kind, g, h, first, again)
			}
		}
		first, _ := guess.Join(p, g, h)
		guess.Widen(p, h, g)
		if again, _ := guess.Join(p, g, h); !equal(first, again) {
			t.Fatalf("Join of %v and %v is %v, then %v", g, h, first, again)
		}
	}
}

func TestP4LongLists(t *testing.T) {
	p := program(t)
	long := may(things(slices.Repeat([]int{2}, 1<<20)...))
	if e := guess.Check(p, long); e != api.ErrState {
		t.Errorf("Check of a long list is %d", e)
	}
	long.Sites[1<<20-1] = 1
	if e := guess.Check(p, long); e != api.ErrNone {
		t.Errorf("Check of a long list is %d", e)
	}
}
