package alarm_test

import (
	"math"
	"math/rand"
	"slices"
	"testing"

	"soundings/alarm"
	"soundings/api"
	"soundings/code"
	"soundings/guess"
	"soundings/picture"
	"soundings/run"
	"soundings/solve"
	"soundings/span"
	"soundings/step"
)

// The tests of this file are for the document's section 'What the whole promises': all layers at work on programs that are drawn, and on runs of them.

// sampled are programs whose runs go on for long, or may go wrong; drawn programs are made of them.
func sampled() []string {
	return []string{
		"vars 3 fields 0\ninput 0 6\nnumber 1 1\nnumber 2 1\nmul 2 2 0\nprint 2\nsub 0 0 1\nif 0 3\nexpect 2\n",
		"vars 4 fields 2\nnull 0\ninput 1 3\nnew 2\nput 2 0 0\nput 2 1 1\ncopy 0 2\ninput 3 1\nif 3 1\nget 1 0 1\nadd 3 1 3\nget 0 0 0\nif 0 8\nprint 3\n",
		"vars 4 fields 1\ninput 0 2\ninput 1 2\nless 2 0 1\nif 2 6\nsame 3 0 1\ngoto 7\nnew 3\nput 3 0 2\nget 2 3 0\nexpect 2\ngoto 0\n",
		"vars 3 fields 1\nnew 0\nnew 1\nput 0 0 1\nput 1 0 0\nget 0 0 0\ninput 2 1\nif 2 4\nsame 2 0 1\nnot 2 2\nexpect 2\nput 0 0 2\nget 1 1 0\ngoto 3\n",
		"vars 4 fields 0\nnumber 0 2147483647\ninput 1 1000000\nadd 0 0 1\nmul 2 0 1\nless 3 2 0\nif 3 1\nsub 2 2 0\ntruth 3 1\nsame 3 3 2\nif 3 11\ngoto 1\nadd 3 3 0\n",
	}
}

// draw a right program: a sample with some instructions of others in it.
func draw(t *testing.T, r *rand.Rand) api.Program {
	t.Helper()
	pick := func() api.Program { return parse(t, sampled()[r.Intn(len(sampled()))]) }
	p := pick()
	for range r.Intn(5) {
		q := p
		q.Code = slices.Clone(p.Code)
		x := pick().Code
		q.Code[r.Intn(len(q.Code))] = x[r.Intn(len(x))]
		if r.Intn(2) > 0 {
			q.Code = slices.Insert(q.Code, r.Intn(len(q.Code)+1), x[r.Intn(len(x))])
		}
		if code.Check(q) == api.OK {
			p = q
		}
	}
	return p
}

// states of a run, from the beginning to its end, but no more than 80.
func states(p api.Program, inputs []int) []api.Run {
	q, _ := run.Begin(p)
	l := []api.Run{q}
	for q.End == 0 && len(l) < 80 {
		q, _ = run.Step(p, q, inputs)
		l = append(l, q)
	}
	return l
}

// each run of programs that are drawn, with inputs of all sizes: its states, and the pictures of its program.
func each(t *testing.T, seed int64, look func(p api.Program, pictures []api.Picture, l []api.Run)) {
	t.Helper()
	r := rand.New(rand.NewSource(seed))
	for range 120 {
		p := draw(t, r)
		pictures, _, e := solve.Solve(p)
		if e != api.OK {
			t.Fatal(e)
		}
		for _, inputs := range [][]int{nil, {1, 1, 1}, {-3, 0, 2, -1, 1}, {math.MaxInt, math.MinInt, math.MaxInt}, r.Perm(9), {r.Intn(99), -r.Intn(99), 1, r.Intn(3)}} {
			look(p, pictures, states(p, inputs))
		}
	}
}

func TestWholeWhatIsPrintedIsParsedAsItWas(t *testing.T) {
	r := rand.New(rand.NewSource(10))
	for range 500 {
		p := draw(t, r)
		s, e := code.Print(p)
		q, line, f := code.Parse(s)
		if e != api.OK || f != api.OK || line != 0 || q.Vars != p.Vars || q.Fields != p.Fields || !slices.Equal(q.Code, p.Code) {
			t.Fatalf("%v is printed as %q, and parsed as %v, %d %d", p, s, q, line, f)
		}
		at := r.Intn(len(s))
		other := s[:at] + string(" \n0-x"[r.Intn(5)]) + s[at+1:]
		if q, _, e := code.Parse(other); e == api.OK {
			if again, _ := code.Print(q); again != other {
				t.Fatalf("%q is parsed, and printed as %q", other, again)
			}
		}
	}
}

// siteOf a value, if it is a thing.
func siteOf(q api.Run, v api.Value) int {
	if v.Kind != api.ValueThing {
		return 0
	}
	return q.Things[v.N].Site
}

// isReckoned: is it an instruction whose To Do of chapter 4 tells?
func isReckoned(x api.Instr) bool {
	return x.Kind >= api.CodeCopy && x.Kind <= api.CodeNot
}

func TestWholeWhateverComesOfNumbersAndValues(t *testing.T) {
	numbers, values, wrongs := 0, 0, 0
	each(t, 11, func(p api.Program, pictures []api.Picture, l []api.Run) {
		for i, q := range l[:len(l)-1] {
			if q.At == len(p.Code) || !isReckoned(p.Code[q.At]) {
				continue
			}
			x, after := p.Code[q.At], l[i+1]
			g, h := pictures[q.At].Vars[x.A], pictures[q.At].Vars[x.B]
			comes, wrong, e := guess.Do(p, x.Kind, g, h)
			if after.End != 0 {
				wrongs++
				if !wrong || e != api.OK {
					t.Fatalf("%v is wrong at %v, and that is not told: %v, %v", q, x, g, h)
				}
				continue
			}
			v := after.Vars[x.To]
			values++
			if ok, _ := guess.Holds(p, comes, v, siteOf(after, v)); !ok || e != api.OK {
				t.Fatalf("%v of %v and %v is %v, which has no %v", x, g, h, comes, v)
			}
			if x.Kind > api.CodeMul || x.Kind < api.CodeAdd {
				continue
			}
			numbers++
			s, e := span.Do(x.Kind, g.Span, h.Span)
			if ok, _ := span.Has(s, v.N); !ok || e != api.OK {
				t.Fatalf("%v of %v and %v is %v, which has no %v", x, g.Span, h.Span, s, v)
			}
		}
	})
	if numbers < 1000 || values < 2000 || wrongs < 20 {
		t.Errorf("only %d numbers, %d values, %d wrongs", numbers, values, wrongs)
	}
}

func TestWholeAnEdgeShowsTheRunOrItHasEnded(t *testing.T) {
	steps := 0
	each(t, 12, func(p api.Program, pictures []api.Picture, l []api.Run) {
		for i, q := range l[:len(l)-1] {
			if q.At == len(p.Code) {
				continue
			}
			edges, _, _, e := step.Step(p, q.At, pictures[q.At])
			if e != api.OK {
				t.Fatal(e)
			}
			after := l[i+1]
			shows := func(x api.Edge) bool {
				ok, _ := picture.Holds(p, x.Picture, after)
				return ok && x.To == after.At
			}
			steps++
			if after.End == 0 && !slices.ContainsFunc(edges, shows) {
				t.Fatalf("%v comes to %v, and no edge of %v shows it", q, after, edges)
			}
		}
	})
	if steps < 5000 {
		t.Errorf("only %d steps", steps)
	}
}

func TestWholeWhatIsSolvedFitsAndShowsEachRun(t *testing.T) {
	each(t, 13, func(p api.Program, pictures []api.Picture, l []api.Run) {
		if ok, e := solve.Fits(p, pictures); !ok || e != api.OK {
			t.Fatalf("pictures of %v do not fit, %d", p, e)
		}
		for _, q := range l {
			if ok, e := picture.Holds(p, pictures[q.At], q); !ok || e != api.OK {
				t.Fatalf("%v: %v does not show %v, %d", p, pictures[q.At], q, e)
			}
		}
	})
}

func TestH3WhereARunEndsThereIsThatAlarm(t *testing.T) {
	ends := map[int]int{}
	each(t, 14, func(p api.Program, _ []api.Picture, l []api.Run) {
		alarms, _ := alarm.Alarms(p)
		for _, q := range l {
			if slices.Contains(alarms, api.Alarm{At: q.At, Kind: api.AlarmIdle}) {
				t.Fatalf("%v comes where %v says that it is idle", q, alarms)
			}
		}
		last := l[len(l)-1]
		ends[last.End]++
		if last.End == api.EndWrong && !slices.Contains(alarms, api.Alarm{At: last.At, Kind: api.AlarmWrong}) {
			t.Fatalf("%v is wrong, and alarms are %v", last, alarms)
		}
		if last.End == api.EndFailed && !slices.Contains(alarms, api.Alarm{At: last.At, Kind: api.AlarmFailed}) {
			t.Fatalf("%v fails, and alarms are %v", last, alarms)
		}
	})
	for _, end := range []int{0, api.EndDone, api.EndWrong, api.EndFailed} {
		if ends[end] < 30 {
			t.Errorf("only %d runs ended by %d", ends[end], end)
		}
	}
}

func TestH3OfWhatIsSureNoRunIsWrongOrFails(t *testing.T) {
	sures := 0
	each(t, 15, func(p api.Program, _ []api.Picture, l []api.Run) {
		sure, e := alarm.Sure(p)
		if e != api.OK {
			t.Fatal(e)
		}
		if !sure {
			return
		}
		sures++
		if end := l[len(l)-1].End; end == api.EndWrong || end == api.EndFailed {
			t.Fatalf("%v is sure, and a run ends by %d", p, end)
		}
	})
	if sures < 50 {
		t.Errorf("only %d runs were of what is sure", sures)
	}
}
