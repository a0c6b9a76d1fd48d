package picture_test

import (
	"math"
	"math/rand"
	"reflect"
	"slices"
	"testing"

	"soundings/api"
	"soundings/code"
	"soundings/guess"
	"soundings/picture"
	"soundings/run"
)

const (
	least = -2147483648
	most  = 2147483647
)

func parse(t *testing.T, text string) api.Program {
	t.Helper()
	p, line, e := code.Parse(text)
	if e != api.OK {
		t.Fatalf("%q: %d at %d", text, e, line)
	}
	return p
}

// program whose sites are 0, 2 and 3.
func program(t *testing.T) api.Program {
	return parse(t, "vars 3 fields 2\nnew 0\nnull 0\nnew 0\nnew 1\nprint 0\n")
}

// maybe is a part of a guess.
type maybe func(g *api.Guess)

func null(g *api.Guess)     { g.Null = true }
func yes(g *api.Guess)      { g.True = true }
func no(g *api.Guess)       { g.False = true }
func things(l ...int) maybe { return func(g *api.Guess) { g.Sites = l } }

// from lo to hi.
func from(lo, hi int) maybe { return func(g *api.Guess) { g.Span = api.Span{Lo: lo, Hi: hi} } }

// just one number.
func just(n int) maybe { return from(n, n) }

// may is the guess that has just these parts.
func may(parts ...maybe) api.Guess {
	g := api.Guess{Span: api.Span{None: true}}
	for _, part := range parts {
		part(&g)
	}
	return g
}

// blank picture of a program: all may be nothing.
func blank(p api.Program) api.Picture {
	x := api.Picture{Vars: slices.Repeat([]api.Guess{may()}, p.Vars)}
	for range p.Code {
		x.Fields = append(x.Fields, slices.Repeat([]api.Guess{may()}, p.Fields))
	}
	return x
}

// full picture of program(t): each guess may be something else.
func full(p api.Program) api.Picture {
	x := blank(p)
	x.Vars[0], x.Vars[1], x.Vars[2] = may(null, things(0)), may(from(3, 4), yes), may(no, things(2, 3))
	x.Fields[0][0], x.Fields[0][1] = may(null), may(from(-1, 1))
	x.Fields[2][0], x.Fields[2][1] = may(yes, things(0)), may()
	x.Fields[3][0], x.Fields[3][1] = may(from(least, most)), may(null, things(0, 2, 3))
	return x
}

func none() api.Picture { return api.Picture{None: true} }

// equal guesses: a list without elements may be nil or not.
func equal(g, h api.Guess) bool {
	return g.Null == h.Null && g.Span == h.Span && g.True == h.True && g.False == h.False && slices.Equal(g.Sites, h.Sites)
}

func equalRows(l, m []api.Guess) bool { return slices.EqualFunc(l, m, equal) }

func alike(x, y api.Picture) bool {
	return x.None == y.None && equalRows(x.Vars, y.Vars) && slices.EqualFunc(x.Fields, y.Fields, equalRows)
}

// clone of a picture that shares nothing with it.
func clone(x api.Picture) api.Picture {
	copyRow := func(l []api.Guess) []api.Guess {
		l = slices.Clone(l)
		for i := range l {
			l[i].Sites = slices.Clone(l[i].Sites)
		}
		return l
	}
	x.Vars, x.Fields = copyRow(x.Vars), slices.Clone(x.Fields)
	for i := range x.Fields {
		x.Fields[i] = copyRow(x.Fields[i])
	}
	return x
}

// wrongPrograms has programs that Check of chapter 1 refuses, each by another error.
func wrongPrograms() map[api.Errno]api.Program {
	return map[api.Errno]api.Program{
		api.ErrRange: {},
		api.ErrMany:  {Vars: 1, Code: make([]api.Instr, 61)},
		api.ErrKind:  {Vars: 1, Code: make([]api.Instr, 1)},
		api.ErrNone:  {Vars: 1, Code: []api.Instr{{Kind: api.CodeNull, To: 1}}},
		api.ErrForm:  {Vars: 1, Code: []api.Instr{{Kind: api.CodeEnd, A: 1}}},
	}
}

// spoilt is what is wrong in a picture, and what Check says of it.
type spoilt struct {
	what string
	do   func(x *api.Picture)
	want api.Errno
}

// wrongs of full(program(t)). Where there are several, it is the first that E1 names.
func wrongs() []spoilt {
	return []spoilt{
		{"none with all", func(x *api.Picture) { x.None = true }, api.ErrForm},
		{"none with variables", func(x *api.Picture) { x.None, x.Fields = true, nil }, api.ErrForm},
		{"none with one variable", func(x *api.Picture) { *x = api.Picture{None: true, Vars: x.Vars[:1]} }, api.ErrForm},
		{"none with fields", func(x *api.Picture) { x.None, x.Vars = true, nil }, api.ErrForm},
		{"none with empty rows", func(x *api.Picture) { *x = api.Picture{None: true, Fields: make([][]api.Guess, 1)} }, api.ErrForm},
		{"nothing there", func(x *api.Picture) { *x = api.Picture{} }, api.ErrForm},
		{"no variables", func(x *api.Picture) { x.Vars = nil }, api.ErrForm},
		{"a variable less", func(x *api.Picture) { x.Vars = x.Vars[:2] }, api.ErrForm},
		{"a variable more", func(x *api.Picture) { x.Vars = append(x.Vars, may(null)) }, api.ErrForm},
		{"no rows", func(x *api.Picture) { x.Fields = nil }, api.ErrForm},
		{"a row less", func(x *api.Picture) { x.Fields = x.Fields[:4] }, api.ErrForm},
		{"a row more", func(x *api.Picture) { x.Fields = append(x.Fields, x.Fields[4]) }, api.ErrForm},
		{"a row without fields", func(x *api.Picture) { x.Fields[1] = nil }, api.ErrForm},
		{"a field less", func(x *api.Picture) { x.Fields[0] = x.Fields[0][:1] }, api.ErrForm},
		{"a field less at the end", func(x *api.Picture) { x.Fields[4] = x.Fields[4][:1] }, api.ErrForm},
		{"a field more", func(x *api.Picture) { x.Fields[3] = append(x.Fields[3], may()) }, api.ErrForm},
		{"form ahead of guesses", func(x *api.Picture) { x.Vars[0], x.Fields[4] = may(things(1)), nil }, api.ErrForm},
		{"form ahead of state", func(x *api.Picture) { x.Fields[1][0], x.Fields[4] = may(null), nil }, api.ErrForm},
		{"a number beyond", func(x *api.Picture) { x.Vars[0] = may(from(0, most+1)) }, api.ErrRange},
		{"none with an end", func(x *api.Picture) { x.Vars[1].Span = api.Span{None: true, Hi: 1} }, api.ErrForm},
		{"a span that falls", func(x *api.Picture) { x.Vars[2] = may(from(1, 0)) }, api.ErrState},
		{"no site", func(x *api.Picture) { x.Vars[2] = may(things(1)) }, api.ErrNone},
		{"sites that fall", func(x *api.Picture) { x.Vars[2] = may(things(3, 2)) }, api.ErrState},
		{"a field with a number beyond", func(x *api.Picture) { x.Fields[0][0] = may(from(least-1, 0)) }, api.ErrRange},
		{"a field that is none with an end", func(x *api.Picture) { x.Fields[2][1].Span = api.Span{None: true, Lo: -1} }, api.ErrForm},
		{"a field without a site", func(x *api.Picture) { x.Fields[3][1] = may(things(0, 4)) }, api.ErrNone},
		{"a field with a site twice", func(x *api.Picture) { x.Fields[3][1] = may(things(2, 2)) }, api.ErrState},
		{"variables one by one", func(x *api.Picture) { x.Vars[0], x.Vars[1] = may(things(1)), may(from(0, most+1)) }, api.ErrNone},
		{"variables ahead of fields", func(x *api.Picture) { x.Vars[2], x.Fields[0][0] = may(things(5)), may(from(0, most+1)) }, api.ErrNone},
		{"fields one by one", func(x *api.Picture) { x.Fields[0][0], x.Fields[0][1] = may(things(-1)), may(from(0, most+1)) }, api.ErrNone},
		{"rows one by one", func(x *api.Picture) { x.Fields[0][1], x.Fields[2][0] = may(things(1)), may(from(0, most+1)) }, api.ErrNone},
		{"null at no site", func(x *api.Picture) { x.Fields[1][0] = may(null) }, api.ErrState},
		{"a number at no site", func(x *api.Picture) { x.Fields[1][1] = api.Guess{} }, api.ErrState},
		{"true at no site", func(x *api.Picture) { x.Fields[4][0] = may(yes) }, api.ErrState},
		{"false at no site", func(x *api.Picture) { x.Fields[4][1] = may(no) }, api.ErrState},
		{"a thing at no site", func(x *api.Picture) { x.Fields[4][1] = may(things(0)) }, api.ErrState},
		{"a wrong guess at no site", func(x *api.Picture) { x.Fields[4][0] = may(things(4)) }, api.ErrNone},
		{"guesses ahead of state", func(x *api.Picture) { x.Fields[1][0], x.Fields[3][1] = may(null), may(from(0, most+1)) }, api.ErrRange},
		{"guesses ahead of state", func(x *api.Picture) { x.Fields[1][0], x.Fields[4][1] = may(null), may(things(9)) }, api.ErrNone},
	}
}

func checkIs(t *testing.T, what string, p api.Program, x api.Picture, want api.Errno) {
	t.Helper()
	if e := picture.Check(p, x); e != want {
		t.Errorf("%s: Check of %v is %d, not %d", what, x, e, want)
	}
}

func TestE1Check(t *testing.T) {
	p := program(t)
	empty := api.Picture{None: true, Vars: []api.Guess{}, Fields: [][]api.Guess{}}
	for _, x := range []api.Picture{none(), empty, blank(p), full(p)} {
		checkIs(t, "right", p, x, api.OK)
		for want, p := range wrongPrograms() {
			checkIs(t, "a wrong program", p, x, want)
		}
	}
	for _, w := range wrongs() {
		x := full(p)
		w.do(&x)
		checkIs(t, w.what, p, x, w.want)
		for want, p := range wrongPrograms() {
			checkIs(t, w.what, p, x, want)
		}
	}
}

func TestE1SmallPrograms(t *testing.T) {
	bare := parse(t, "vars 1 fields 0\n")
	checkIs(t, "no code", bare, api.Picture{Vars: []api.Guess{may(null)}}, api.OK)
	checkIs(t, "no code", bare, api.Picture{Vars: []api.Guess{may(null)}, Fields: make([][]api.Guess, 1)}, api.ErrForm)
	checkIs(t, "no code", bare, api.Picture{Vars: []api.Guess{may(things(0))}}, api.ErrNone)
	thin := parse(t, "vars 1 fields 0\nnew 0\nend\n")
	checkIs(t, "no fields", thin, api.Picture{Vars: []api.Guess{may(things(0))}, Fields: [][]api.Guess{nil, {}}}, api.OK)
	checkIs(t, "no fields", thin, api.Picture{Vars: []api.Guess{may(things(0))}, Fields: [][]api.Guess{nil, {may()}}}, api.ErrForm)
	checkIs(t, "no fields", thin, api.Picture{Vars: []api.Guess{may(things(0))}, Fields: nil}, api.ErrForm)
}

// refused: each call that looks at two pictures answers this error, and nothing else.
func refused(t *testing.T, what string, p api.Program, x, y api.Picture, want api.Errno) {
	t.Helper()
	if z, e := picture.Join(p, x, y); !alike(z, api.Picture{}) || e != want {
		t.Errorf("%s: Join is %v, %d, not %d", what, z, e, want)
	}
	if z, e := picture.Widen(p, x, y); !alike(z, api.Picture{}) || e != want {
		t.Errorf("%s: Widen is %v, %d, not %d", what, z, e, want)
	}
	if ok, e := picture.Within(p, x, y); ok || e != want {
		t.Errorf("%s: Within is %v, %d, not %d", what, ok, e, want)
	}
}

// notHeld: Holds answers this error, and nothing else.
func notHeld(t *testing.T, what string, p api.Program, x api.Picture, r api.Run, want api.Errno) {
	t.Helper()
	if ok, e := picture.Holds(p, x, r); ok || e != want {
		t.Errorf("%s: Holds of %v is %v, %d, not %d", what, r, ok, e, want)
	}
}

func TestE1OthersTellItFirst(t *testing.T) {
	p := program(t)
	begun, _ := run.Begin(p)
	wrongRun := api.Run{At: -1}
	for want, wrong := range wrongPrograms() {
		if x, e := picture.Begin(wrong); !alike(x, api.Picture{}) || e != want {
			t.Errorf("Begin of %v is %v, %d", wrong, x, e)
		}
		for _, x := range []api.Picture{none(), full(p), {}} {
			refused(t, "a wrong program", wrong, x, none(), want)
			refused(t, "a wrong program", wrong, none(), x, want)
			notHeld(t, "a wrong program", wrong, x, begun, want)
			notHeld(t, "a wrong program", wrong, x, wrongRun, want)
		}
	}
	for _, w := range wrongs() {
		x := full(p)
		w.do(&x)
		for _, right := range []api.Picture{none(), blank(p), full(p)} {
			refused(t, w.what, p, x, right, w.want)
			refused(t, w.what, p, right, x, w.want)
		}
		notHeld(t, w.what, p, x, begun, w.want)
		notHeld(t, w.what, p, x, wrongRun, w.want)
		for _, v := range wrongs() {
			y := full(p)
			v.do(&y)
			refused(t, w.what+", then "+v.what, p, x, y, w.want)
		}
	}
}

func TestE2Begin(t *testing.T) {
	for _, text := range []string{"vars 1 fields 0\n", "vars 8 fields 0\nend\n", "vars 1 fields 3\n", "vars 2 fields 3\nnew 0\nend\nnew 1\n", "vars 1 fields 0\nnumber 0 5\nprint 0\n"} {
		p := parse(t, text)
		want := blank(p)
		for i := range want.Vars {
			want.Vars[i].Null = true
		}
		x, e := picture.Begin(p)
		if !alike(x, want) || e != api.OK {
			t.Errorf("Begin of %q is %v, %d", text, x, e)
		}
		checkIs(t, text, p, x, api.OK)
	}
}

// joined: what comes of both, handed in either way, and that both are within it.
func joined(t *testing.T, p api.Program, x, y, join api.Picture) {
	t.Helper()
	for range 2 {
		if z, e := picture.Join(p, x, y); !alike(z, join) || e != api.OK {
			t.Errorf("Join of %v and %v is %v, %d, not %v", x, y, z, e, join)
		}
		if ok, e := picture.Within(p, x, join); !ok || e != api.OK {
			t.Errorf("%v is not within %v, %d", x, join, e)
		}
		x, y = y, x
	}
}

func widened(t *testing.T, p api.Program, x, y, want api.Picture) {
	t.Helper()
	if z, e := picture.Widen(p, x, y); !alike(z, want) || e != api.OK {
		t.Errorf("Widen of %v by %v is %v, %d, not %v", x, y, z, e, want)
	}
}

func within(t *testing.T, p api.Program, x, y api.Picture, want bool) {
	t.Helper()
	if ok, e := picture.Within(p, x, y); ok != want || e != api.OK {
		t.Errorf("Within of %v and %v is %v, %d, not %v", x, y, ok, e, want)
	}
}

func TestE2None(t *testing.T) {
	p := program(t)
	empty := api.Picture{None: true, Vars: []api.Guess{}, Fields: [][]api.Guess{}}
	for _, x := range []api.Picture{none(), empty, blank(p), full(p)} {
		for _, n := range []api.Picture{none(), empty} {
			joined(t, p, x, n, x)
			widened(t, p, x, n, x)
			widened(t, p, n, x, x)
			within(t, p, n, x, true)
			within(t, p, x, n, x.None)
		}
	}
}

func TestE2PartByPart(t *testing.T) {
	p := parse(t, "vars 2 fields 1\nnew 0\nnew 1\nend\n")
	x, y, join, widen := blank(p), blank(p), blank(p), blank(p)
	x.Vars[0], y.Vars[0] = may(null, from(0, 1)), may(yes, from(1, 2))
	join.Vars[0], widen.Vars[0] = may(null, yes, from(0, 2)), may(null, yes, from(0, most))
	x.Vars[1], y.Vars[1] = may(things(1)), may(no, things(0))
	join.Vars[1], widen.Vars[1] = may(no, things(0, 1)), may(no, things(0, 1))
	x.Fields[0][0], y.Fields[0][0] = may(just(5)), may(just(-5))
	join.Fields[0][0], widen.Fields[0][0] = may(from(-5, 5)), may(from(least, 5))
	x.Fields[1][0], y.Fields[1][0] = may(), may(just(7))
	join.Fields[1][0], widen.Fields[1][0] = may(just(7)), may(just(7))
	joined(t, p, x, y, join)
	widened(t, p, x, y, widen)
	widened(t, p, join, x, join)
	within(t, p, x, y, false)
	within(t, p, y, x, false)
	within(t, p, join, widen, true)
	within(t, p, widen, join, false)
	within(t, p, blank(p), x, true)
	within(t, p, x, blank(p), false)
}

func TestE2WithinOfEachPart(t *testing.T) {
	p := program(t)
	for i := range p.Vars {
		more := full(p)
		more.Vars[i] = may(null, yes, no, from(least, most), things(0, 2, 3))
		within(t, p, full(p), more, true)
		within(t, p, more, full(p), false)
		less := full(p)
		less.Vars[i] = may()
		within(t, p, less, full(p), true)
		within(t, p, full(p), less, false)
	}
	for _, site := range []int{0, 2, 3} {
		for i := range p.Fields {
			more := full(p)
			more.Fields[site][i] = may(null, yes, no, from(least, most), things(0, 2, 3))
			within(t, p, full(p), more, true)
			within(t, p, more, full(p), false)
		}
	}
}

// drawGuess draws a guess, small enough that two of them often have something in common.
func drawGuess(r *rand.Rand) api.Guess {
	g := may()
	g.Null, g.True, g.False = r.Intn(2) == 0, r.Intn(3) == 0, r.Intn(3) == 0
	if r.Intn(3) > 0 {
		lo := r.Intn(5) - 2
		g.Span = api.Span{Lo: lo, Hi: lo + r.Intn(3)}
	}
	for _, site := range []int{0, 2, 3} {
		if r.Intn(3) > 0 {
			g.Sites = append(g.Sites, site)
		}
	}
	return g
}

// drawPicture draws a picture of program(t).
func drawPicture(r *rand.Rand, p api.Program) api.Picture {
	if r.Intn(20) == 0 {
		return none()
	}
	x := blank(p)
	for i := range x.Vars {
		x.Vars[i] = drawGuess(r)
	}
	for _, site := range []int{0, 2, 3} {
		for i := range x.Fields[site] {
			if r.Intn(5) > 0 {
				x.Fields[site][i] = drawGuess(r)
			}
		}
	}
	return x
}

// over draws a picture that has all that another one has, and perhaps more.
func over(t *testing.T, r *rand.Rand, p api.Program, x api.Picture) api.Picture {
	t.Helper()
	more := drawPicture(r, p)
	for i := range more.Vars {
		if r.Intn(2) == 0 {
			more.Vars[i] = may()
		}
	}
	y, e := picture.Join(p, x, more)
	if e != api.OK {
		t.Fatal(e)
	}
	return y
}

// each guess of a picture, one after the other.
func each(x api.Picture) []api.Guess {
	return append(slices.Clone(x.Vars), slices.Concat(x.Fields...)...)
}

func TestE2AsChapter4Says(t *testing.T) {
	p := program(t)
	r := rand.New(rand.NewSource(1))
	yes, no := 0, 0
	for range 1500 {
		x, y := drawPicture(r, p), drawPicture(r, p)
		if r.Intn(3) == 0 {
			y = over(t, r, p, x)
		}
		if x.None || y.None {
			continue
		}
		join, _ := picture.Join(p, x, y)
		widen, _ := picture.Widen(p, x, y)
		xs, ys, joins, widens := each(x), each(y), each(join), each(widen)
		all := true
		for i := range xs {
			ok, _ := guess.Within(p, xs[i], ys[i])
			all = all && ok
			if g, _ := guess.Join(p, xs[i], ys[i]); !equal(g, joins[i]) {
				t.Fatalf("Join of %v and %v is %v, not %v", xs[i], ys[i], joins[i], g)
			}
			if g, _ := guess.Widen(p, xs[i], ys[i]); !equal(g, widens[i]) {
				t.Fatalf("Widen of %v by %v is %v, not %v", xs[i], ys[i], widens[i], g)
			}
		}
		within(t, p, x, y, all)
		checkIs(t, "a Join", p, join, api.OK)
		checkIs(t, "a Widen", p, widen, api.OK)
		if all {
			yes++
		} else {
			no++
		}
	}
	if yes < 100 || no < 100 {
		t.Errorf("within %d times, and not %d times", yes, no)
	}
}

func value(kind, n int) api.Value { return api.Value{Kind: kind, N: n} }

// shown is a run that full(program(t)) shows.
func shown() api.Run {
	return api.Run{
		Vars: []api.Value{value(api.ValueThing, 1), value(api.ValueNumber, 4), value(api.ValueThing, 0)},
		Things: []api.Thing{
			{Site: 3, Fields: []api.Value{value(api.ValueNumber, most), value(api.ValueThing, 2)}},
			{Site: 0, Fields: []api.Value{value(api.ValueNull, 0), value(api.ValueNumber, -1)}},
			{Site: 3, Fields: []api.Value{value(api.ValueNumber, 0), value(api.ValueNull, 0)}},
		},
	}
}

func holdsIs(t *testing.T, what string, p api.Program, x api.Picture, r api.Run, want bool) {
	t.Helper()
	if ok, e := picture.Holds(p, x, r); ok != want || e != api.OK {
		t.Errorf("%s: Holds of %v is %v, %d, not %v", what, r, ok, e, want)
	}
}

func TestE3Holds(t *testing.T) {
	p := program(t)
	for _, c := range []struct {
		what string
		do   func(r *api.Run)
		want bool
	}{
		{"as it is", func(r *api.Run) {}, true},
		{"elsewhere", func(r *api.Run) { r.At, r.Taken, r.Lines, r.End = 5, 9, []string{"5"}, api.EndFuel }, true},
		{"without things", func(r *api.Run) { r.Vars[0], r.Vars[2], r.Things = value(0, 0), value(api.ValueTruth, 0), nil }, true},
		{"another number", func(r *api.Run) { r.Vars[1].N = 3 }, true},
		{"a truth", func(r *api.Run) { r.Vars[1] = value(api.ValueTruth, 1) }, true},
		{"a number beyond", func(r *api.Run) { r.Vars[1].N = 5 }, false},
		{"another truth", func(r *api.Run) { r.Vars[1] = value(api.ValueTruth, 0) }, false},
		{"null", func(r *api.Run) { r.Vars[1] = value(0, 0) }, false},
		{"a thing of another site", func(r *api.Run) { r.Vars[0].N = 2 }, false},
		{"a thing of another site", func(r *api.Run) { r.Vars[2].N = 1 }, false},
		{"the last variable", func(r *api.Run) { r.Vars[2] = value(0, 0) }, false},
		{"a field of another kind", func(r *api.Run) { r.Things[0].Fields[0] = value(0, 0) }, false},
		{"the last field", func(r *api.Run) { r.Things[2].Fields[1] = value(api.ValueTruth, 1) }, false},
		{"a field of a thing in the middle", func(r *api.Run) { r.Things[1].Fields[1] = value(api.ValueNumber, 2) }, false},
		{"a thing that was made elsewhere", func(r *api.Run) { r.Things[1].Site = 2 }, false},
		{"a thing whose field may be nothing", func(r *api.Run) { r.Things = append(r.Things, api.Thing{Site: 2, Fields: make([]api.Value, 2)}) }, false},
	} {
		r := shown()
		c.do(&r)
		holdsIs(t, c.what, p, full(p), r, c.want)
		holdsIs(t, c.what+": none", p, none(), r, false)
		holdsIs(t, c.what+": blank", p, blank(p), r, false)
	}
}

func TestE3Beginnings(t *testing.T) {
	for _, text := range []string{"vars 1 fields 0\n", "vars 1 fields 0\nnumber 0 5\nprint 0\n", "vars 8 fields 3\nnew 0\n"} {
		p := parse(t, text)
		x, _ := picture.Begin(p)
		r, _ := run.Begin(p)
		holdsIs(t, text, p, x, r, true)
		r.Vars[0] = value(api.ValueNumber, 0)
		holdsIs(t, text, p, x, r, false)
	}
	p := parse(t, "vars 1 fields 0\nnew 0\n")
	r, _, _ := run.Run(p, nil, 1)
	holdsIs(t, "a thing without fields", p, api.Picture{Vars: []api.Guess{may(things(0))}, Fields: make([][]api.Guess, 1)}, r, true)
	holdsIs(t, "a thing without fields", p, api.Picture{Vars: []api.Guess{may(null)}, Fields: make([][]api.Guess, 1)}, r, false)
}

func TestE3ErrorsOfRuns(t *testing.T) {
	p := program(t)
	for _, c := range []struct {
		do   func(r *api.Run)
		want api.Errno
	}{
		{func(r *api.Run) { r.At = -1 }, api.ErrRange},
		{func(r *api.Run) { r.At = 6 }, api.ErrRange},
		{func(r *api.Run) { r.Taken = -1 }, api.ErrRange},
		{func(r *api.Run) { r.End = 6 }, api.ErrRange},
		{func(r *api.Run) { r.Vars = nil }, api.ErrForm},
		{func(r *api.Run) { r.Things = make([]api.Thing, 101) }, api.ErrMany},
		{func(r *api.Run) { r.Things[0].Site = 1 }, api.ErrNone},
		{func(r *api.Run) { r.Things[0].Site = -1 }, api.ErrNone},
		{func(r *api.Run) { r.Things[2].Fields = nil }, api.ErrForm},
		{func(r *api.Run) { r.Vars[0].N = 3 }, api.ErrState},
		{func(r *api.Run) { r.Vars[0].N = -1 }, api.ErrState},
		{func(r *api.Run) { r.Vars[1].Kind = 4 }, api.ErrState},
		{func(r *api.Run) { r.Things[0].Fields[1].N = math.MaxInt }, api.ErrState},
	} {
		r := shown()
		c.do(&r)
		for _, x := range []api.Picture{none(), blank(p), full(p)} {
			notHeld(t, "a wrong run", p, x, r, c.want)
		}
	}
}

// drawValue draws a value that a guess holds, or, sometimes, another one. There must be two things of each site: 0 and 1 of the first one, and so on.
func drawValue(r *rand.Rand, g api.Guess) api.Value {
	l := []api.Value{value(api.ValueNull, 0), value(api.ValueTruth, 1), value(api.ValueTruth, 0)}
	for n := -3; n <= 3; n++ {
		l = append(l, value(api.ValueNumber, n))
	}
	for i := range 6 {
		l = append(l, value(api.ValueThing, i))
	}
	if r.Intn(50) == 0 {
		return l[r.Intn(len(l))]
	}
	r.Shuffle(len(l), func(i, j int) { l[i], l[j] = l[j], l[i] })
	for _, v := range l {
		if isIn(g, v) {
			return v
		}
	}
	return l[0]
}

// isIn: does a guess hold a value, by the words of the type alone? (Things as in drawValue.)
func isIn(g api.Guess, v api.Value) bool {
	switch v.Kind {
	case api.ValueNull:
		return g.Null
	case api.ValueNumber:
		return !g.Span.None && g.Span.Lo <= v.N && v.N <= g.Span.Hi
	case api.ValueTruth:
		return v.N == 1 && g.True || v.N == 0 && g.False
	}
	return slices.Contains(g.Sites, []int{0, 2, 3}[v.N/2])
}

// drawRun draws a run of program(t) that a picture shows, if all goes well.
func drawRun(r *rand.Rand, p api.Program, x api.Picture) api.Run {
	if x.None {
		x = blank(p)
	}
	var q api.Run
	for _, g := range x.Vars {
		q.Vars = append(q.Vars, drawValue(r, g))
	}
	for i := range 6 {
		site := []int{0, 2, 3}[i/2]
		thing := api.Thing{Site: site}
		for _, g := range x.Fields[site] {
			thing.Fields = append(thing.Fields, drawValue(r, g))
		}
		q.Things = append(q.Things, thing)
	}
	return q
}

// shows: does a picture show a run of drawRun, by the words of the types alone?
func shows(x api.Picture, q api.Run) bool {
	if x.None {
		return false
	}
	guesses, values := slices.Clone(x.Vars), slices.Clone(q.Vars)
	for _, thing := range q.Things {
		guesses, values = append(guesses, x.Fields[thing.Site]...), append(values, thing.Fields...)
	}
	for i, v := range values {
		if !isIn(guesses[i], v) {
			return false
		}
	}
	return true
}

func TestE4JoinShowsWhatOneShows(t *testing.T) {
	p := program(t)
	r := rand.New(rand.NewSource(2))
	held, within := 0, 0
	for range 4000 {
		x, y := drawPicture(r, p), drawPicture(r, p)
		if r.Intn(3) == 0 {
			y = over(t, r, p, x)
		}
		q := drawRun(r, p, x)
		one, other := shows(x, q), shows(y, q)
		holdsIs(t, "x", p, x, q, one)
		holdsIs(t, "y", p, y, q, other)
		if one {
			held++
		}
		if join, _ := picture.Join(p, x, y); one || other {
			holdsIs(t, "Join", p, join, q, true)
		}
		if widen, _ := picture.Widen(p, x, y); one || other {
			holdsIs(t, "Widen", p, widen, q, true)
		}
		if ok, _ := picture.Within(p, x, y); ok && one {
			within++
			holdsIs(t, "Within", p, y, q, true)
		}
	}
	if held < 500 || within < 100 {
		t.Errorf("%d runs were shown, %d of them by a picture within another", held, within)
	}
}

func TestP1WhateverIsHandedIn(t *testing.T) {
	p := program(t)
	r := rand.New(rand.NewSource(3))
	for range 5000 {
		x, y, q := drawPicture(r, p), drawPicture(r, p), drawRun(r, p, full(p))
		for range r.Intn(3) {
			spoil(r, &x)
			spoil(r, &y)
		}
		q.At, q.End = r.Intn(9)-2, r.Intn(9)-2
		q.Things[r.Intn(6)].Site = r.Intn(9) - 2
		q.Vars[0].N = r.Intn(9) - 2
		for _, call := range []func(p api.Program, x, y api.Picture) (api.Picture, api.Errno){picture.Join, picture.Widen} {
			z, e := call(p, x, y)
			if e != api.OK && !alike(z, api.Picture{}) || e == api.OK && picture.Check(p, z) != api.OK {
				t.Fatalf("%v and %v are %v, %d", x, y, z, e)
			}
		}
		if ok, e := picture.Within(p, x, y); ok && e != api.OK {
			t.Fatalf("%v is within %v, %d", x, y, e)
		}
		if ok, e := picture.Holds(p, x, q); ok && e != api.OK {
			t.Fatalf("%v shows %v, %d", x, q, e)
		}
	}
}

// spoil something of a picture, perhaps.
func spoil(r *rand.Rand, x *api.Picture) {
	row := x.Vars
	if len(x.Fields) > 0 && r.Intn(2) == 0 {
		row = x.Fields[r.Intn(len(x.Fields))]
	}
	switch odd := []int{math.MinInt, least - 1, -1, 1, 4, 5, most + 1, math.MaxInt}[r.Intn(8)]; r.Intn(8) {
	case 0:
		x.None = !x.None
	case 1:
		x.Vars = append(x.Vars, may())
	case 2:
		x.Fields = append(x.Fields, nil)
	case 3:
		x.Fields = x.Fields[:len(x.Fields)/2]
	case 4, 5:
		if len(row) > 0 {
			row[r.Intn(len(row))].Span.Lo = odd
		}
	default:
		if len(row) > 0 {
			row[r.Intn(len(row))].Sites = []int{odd}
		}
	}
}

// roomy makes all lists of a picture anew, each with spare room behind it, and tells all that lies there.
func roomy(x api.Picture) (api.Picture, func() api.Picture) {
	rowRoom := func(l []api.Guess) []api.Guess {
		room := slices.Clone(l)
		for i := range room {
			room[i].Sites = append(slices.Clone(l[i].Sites), -7, -7)[:len(l[i].Sites)]
		}
		return append(room, may(just(-7)), may(things(-7)))[:len(l)]
	}
	x.Vars = rowRoom(x.Vars)
	fields := make([][]api.Guess, 0, len(x.Fields)+1)
	for _, l := range x.Fields {
		fields = append(fields, rowRoom(l))
	}
	x.Fields = append(fields, []api.Guess{may(just(-7))})[:len(x.Fields)]
	return x, func() api.Picture { return spread(x) }
}

// spread is a clone of a picture with all that lies in the spare room of its lists.
func spread(x api.Picture) api.Picture {
	stretch := func(l []api.Guess) []api.Guess {
		l = slices.Clone(l[:cap(l)])
		for i := range l {
			l[i].Sites = slices.Clone(l[i].Sites[:cap(l[i].Sites)])
		}
		return l
	}
	x.Vars, x.Fields = stretch(x.Vars), slices.Clone(x.Fields[:cap(x.Fields)])
	for i := range x.Fields {
		x.Fields[i] = stretch(x.Fields[i])
	}
	return x
}

// scribble over all lists of a picture, and over their spare room, one list after the other; calls back behind each.
func scribble(x api.Picture, after func()) {
	for _, l := range append([][]api.Guess{x.Vars}, x.Fields...) {
		for i := range l {
			sites := l[i].Sites[:cap(l[i].Sites)]
			for k := range sites {
				sites[k] = -9
			}
			l[i].Sites = nil
			after()
		}
		for i := range l[:cap(l)] {
			l[:cap(l)][i] = may(just(-9))
		}
		after()
	}
	clear(x.Fields[:cap(x.Fields)])
	after()
}

func TestP2WhatIsHandedInIsOnlyRead(t *testing.T) {
	p := program(t)
	kept := slices.Clone(p.Code)
	other := full(p)
	other.Vars[0], other.Vars[1], other.Fields[3][0] = may(things(2)), may(just(9)), may(things(0))
	for _, c := range [][2]api.Picture{{full(p), full(p)}, {full(p), other}, {other, blank(p)}, {none(), full(p)}, {full(p), none()}} {
		for _, call := range []func(p api.Program, x, y api.Picture) (api.Picture, api.Errno){picture.Join, picture.Widen} {
			x, xAll := roomy(c[0])
			y, yAll := roomy(c[1])
			xKept, yKept := xAll(), yAll()
			z, _ := call(p, x, y)
			picture.Within(p, x, y)
			picture.Holds(p, x, shown())
			unchanged := func() {
				if !reflect.DeepEqual(xAll(), xKept) || !reflect.DeepEqual(yAll(), yKept) || !slices.Equal(p.Code, kept) {
					t.Fatalf("what was handed in was changed: %v, %v", x, y)
				}
			}
			unchanged()
			w := clone(z)
			scribble(z, unchanged)
			z, _ = call(p, x, y)
			scribble(x, func() {})
			scribble(y, func() {})
			if !alike(z, w) {
				t.Errorf("an answer was changed later, to %v", z)
			}
		}
	}
}

func TestP2NoTwoListsShareMemory(t *testing.T) {
	p := program(t)
	for _, y := range []api.Picture{none(), full(p), blank(p)} {
		x, _ := picture.Join(p, full(p), y)
		unshared(t, x)
	}
	x, _ := picture.Begin(p)
	unshared(t, x)
}

// unshared: a change of one list of a picture is not seen in those behind it, nor what is written behind its end.
func unshared(t *testing.T, x api.Picture) {
	t.Helper()
	want := clone(x)
	rows, wanted := append([][]api.Guess{x.Vars}, x.Fields...), append([][]api.Guess{want.Vars}, want.Fields...)
	for i, l := range rows {
		if !equalRows(l, wanted[i]) {
			t.Fatalf("row %d was changed with another one, to %v", i, l)
		}
		for k := range l {
			if !slices.Equal(l[k].Sites, wanted[i][k].Sites) {
				t.Fatalf("sites %d of row %d were changed with others, to %v", k, i, l[k].Sites)
			}
			for n := range l[k].Sites[:cap(l[k].Sites)] {
				l[k].Sites[:cap(l[k].Sites)][n] = -9
			}
		}
		for k := range l[:cap(l)] {
			l[:cap(l)][k] = may(just(-9))
		}
	}
}

func TestP2RunsAreOnlyRead(t *testing.T) {
	p := program(t)
	r := shown()
	holdsIs(t, "a run", p, full(p), r, true)
	if !reflect.DeepEqual(r, shown()) {
		t.Errorf("it was changed to %v", r)
	}
}

func TestP3TheSameEachTime(t *testing.T) {
	p := program(t)
	r := rand.New(rand.NewSource(4))
	for range 300 {
		x, y := drawPicture(r, p), drawPicture(r, p)
		q := drawRun(r, p, x)
		join, _ := picture.Join(p, x, y)
		widen, _ := picture.Widen(p, x, y)
		ok, _ := picture.Within(p, x, y)
		held, _ := picture.Holds(p, x, q)
		picture.Join(p, y, x)
		picture.Begin(p)
		again, _ := picture.Join(p, x, y)
		widenAgain, _ := picture.Widen(p, x, y)
		okAgain, _ := picture.Within(p, x, y)
		heldAgain, _ := picture.Holds(p, x, q)
		if !alike(join, again) || !alike(widen, widenAgain) || ok != okAgain || held != heldAgain {
			t.Fatalf("of %v and %v it is otherwise another time", x, y)
		}
	}
}

func TestP4LongLists(t *testing.T) {
	p := program(t)
	long := full(p)
	long.Vars = make([]api.Guess, 1<<20)
	checkIs(t, "many variables", p, long, api.ErrForm)
	long.None = true
	checkIs(t, "none with many variables", p, long, api.ErrForm)
	long = full(p)
	long.Fields = make([][]api.Guess, 1<<20)
	checkIs(t, "many rows", p, long, api.ErrForm)
	long = full(p)
	long.Fields[1] = make([]api.Guess, 1<<20)
	checkIs(t, "many fields", p, long, api.ErrForm)
	long = full(p)
	long.Vars[0] = may(things(slices.Repeat([]int{2}, 1<<20)...))
	checkIs(t, "many sites", p, long, api.ErrState)
}
