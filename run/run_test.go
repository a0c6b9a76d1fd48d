package run_test

import (
	"math"
	"math/rand"
	"reflect"
	"slices"
	"strconv"
	"strings"
	"testing"

	"soundings/api"
	"soundings/code"
	"soundings/run"
)

func null() api.Value { return api.Value{} }

func number(n int) api.Value { return api.Value{Kind: api.ValueNumber, N: n} }

func truth(n int) api.Value { return api.Value{Kind: api.ValueTruth, N: n} }

func thing(n int) api.Value { return api.Value{Kind: api.ValueThing, N: n} }

// made is a thing whose fields lie in the very list that is handed in.
func made(site int, fields ...api.Value) api.Thing {
	return api.Thing{Site: site, Fields: fields}
}

// program of a text.
func program(t *testing.T, text string) api.Program {
	t.Helper()
	p, line, e := code.Parse(text)
	if e != api.OK {
		t.Fatalf("%q: %d at %d", text, e, line)
	}
	return p
}

// equal runs: a list without elements may be nil or not.
func equal(r, s api.Run) bool {
	things := slices.EqualFunc(r.Things, s.Things, func(t, u api.Thing) bool {
		return t.Site == u.Site && slices.Equal(t.Fields, u.Fields)
	})
	return things && r.At == s.At && slices.Equal(r.Vars, s.Vars) && r.Taken == s.Taken && slices.Equal(r.Lines, s.Lines) && r.End == s.End
}

// deep copy of a run.
func deep(r api.Run) api.Run {
	r.Vars, r.Lines, r.Things = slices.Clone(r.Vars), slices.Clone(r.Lines), slices.Clone(r.Things)
	for i := range r.Things {
		r.Things[i].Fields = slices.Clone(r.Things[i].Fields)
	}
	return r
}

// wrongPrograms has programs that Check of chapter 1 refuses, each by another error.
func wrongPrograms() map[api.Errno]api.Program {
	return map[api.Errno]api.Program{
		api.ErrRange: {},
		api.ErrMany:  {Vars: 1, Code: make([]api.Instr, 61)},
		api.ErrKind:  {Vars: 1, Code: make([]api.Instr, 1)},
		api.ErrNone:  {Vars: 1, Code: []api.Instr{{Kind: api.CodeNull, To: 1}}},
		api.ErrForm:  {Vars: 1, Code: []api.Instr{{Kind: api.CodeEnd, A: 1}}},
	}
}

func TestB1Begin(t *testing.T) {
	p := program(t, "vars 3 fields 2\nnew 0\n")
	want := api.Run{Vars: make([]api.Value, 3)}
	if r, e := run.Begin(p); !equal(r, want) || e != api.OK {
		t.Errorf("it begins as %v, %d", r, e)
	}
	for want, p := range wrongPrograms() {
		if r, e := run.Begin(p); !reflect.DeepEqual(r, api.Run{}) || e != want {
			t.Errorf("%v begins as %v, %d", p, r, e)
		}
	}
}

// standing is a right run of the program of TestB1Check.
func standing() api.Run {
	return api.Run{
		At:     1,
		Vars:   []api.Value{thing(1), truth(1)},
		Things: []api.Thing{made(0, null(), number(7)), made(2, thing(0), thing(1))},
		Taken:  3,
		Lines:  []string{"any", "line\n"},
	}
}

func TestB1Check(t *testing.T) {
	p := program(t, "vars 2 fields 2\nnew 0\nprint 0\nnew 1\n")
	many := slices.Repeat([]api.Thing{made(0, null(), null())}, 101)
	for i, c := range []struct {
		do   func(r *api.Run)
		want api.Errno
	}{
		{func(r *api.Run) {}, api.OK},
		{func(r *api.Run) { r.At = 0 }, api.OK},
		{func(r *api.Run) { r.At = 3 }, api.OK},
		{func(r *api.Run) { r.At = 4 }, api.ErrRange},
		{func(r *api.Run) { r.At = -1 }, api.ErrRange},
		{func(r *api.Run) { r.At = math.MaxInt }, api.ErrRange},
		{func(r *api.Run) { r.Taken = 0 }, api.OK},
		{func(r *api.Run) { r.Taken = -1 }, api.ErrRange},
		{func(r *api.Run) { r.Taken = 1 << 40 }, api.OK},
		{func(r *api.Run) { r.End = 1 }, api.OK},
		{func(r *api.Run) { r.End = 4 }, api.OK},
		{func(r *api.Run) { r.End = 5 }, api.OK},
		{func(r *api.Run) { r.End = 6 }, api.ErrRange},
		{func(r *api.Run) { r.End = -1 }, api.ErrRange},
		{func(r *api.Run) { r.Vars = nil }, api.ErrForm},
		{func(r *api.Run) { r.Vars = r.Vars[:1] }, api.ErrForm},
		{func(r *api.Run) { r.Vars = append(r.Vars, null()) }, api.ErrForm},
		{func(r *api.Run) { r.Things = many[:100] }, api.OK},
		{func(r *api.Run) { r.Things = many }, api.ErrMany},
		{func(r *api.Run) { r.Things = nil }, api.ErrState},
		{func(r *api.Run) { r.Things[1].Site = 1 }, api.ErrNone},
		{func(r *api.Run) { r.Things[1].Site = 3 }, api.ErrNone},
		{func(r *api.Run) { r.Things[1].Site = -1 }, api.ErrNone},
		{func(r *api.Run) { r.Things[1].Fields = nil }, api.ErrForm},
		{func(r *api.Run) { r.Things[1].Fields = make([]api.Value, 1) }, api.ErrForm},
		{func(r *api.Run) { r.Things[0].Fields = make([]api.Value, 3) }, api.ErrForm},
		{func(r *api.Run) { r.Lines = nil }, api.OK},
	} {
		r := standing()
		c.do(&r)
		if e := run.Check(p, r); e != c.want {
			t.Errorf("case %d: Check of %v is %d, not %d", i, r, e, c.want)
		}
	}
}

func TestB1CheckOfValues(t *testing.T) {
	p := program(t, "vars 2 fields 2\nnew 0\nprint 0\nnew 1\n")
	for v, want := range map[api.Value]api.Errno{
		null():                api.OK,
		{N: 1}:                api.ErrState,
		{N: -1}:               api.ErrState,
		number(api.Least):     api.OK,
		number(api.Most):      api.OK,
		number(-2147483649):   api.ErrState,
		number(2147483648):    api.ErrState,
		number(math.MinInt):   api.ErrState,
		truth(0):              api.OK,
		truth(1):              api.OK,
		truth(2):              api.ErrState,
		truth(-1):             api.ErrState,
		thing(0):              api.OK,
		thing(1):              api.OK,
		thing(2):              api.ErrState,
		thing(-1):             api.ErrState,
		{Kind: 4}:             api.ErrState,
		{Kind: -1}:            api.ErrState,
		{Kind: math.MaxInt}:   api.ErrState,
		{Kind: 3, N: 1 << 40}: api.ErrState,
	} {
		for i, slot := range []func(r *api.Run) *api.Value{
			func(r *api.Run) *api.Value { return &r.Vars[0] },
			func(r *api.Run) *api.Value { return &r.Vars[1] },
			func(r *api.Run) *api.Value { return &r.Things[0].Fields[0] },
			func(r *api.Run) *api.Value { return &r.Things[1].Fields[1] },
		} {
			r := standing()
			*slot(&r) = v
			if e := run.Check(p, r); e != want {
				t.Errorf("slot %d: Check of %v is %d, not %d", i, r, e, want)
			}
		}
	}
}

func TestB1OrderOfErrors(t *testing.T) {
	p := program(t, "vars 2 fields 2\nnew 0\nprint 0\nnew 1\n")
	many := func(r *api.Run) { r.Things = make([]api.Thing, 101) }
	vars := func(r *api.Run) { r.Vars = nil }
	site := func(r *api.Run) { r.Things[1].Site = 1 }
	fields := func(r *api.Run) { r.Things[0].Fields = nil }
	value := func(r *api.Run) { r.Vars[0] = thing(9) }
	end := func(r *api.Run) { r.End = 6 }
	for i, c := range []struct {
		one, two func(r *api.Run)
		want     api.Errno
	}{
		{many, end, api.ErrRange},
		{vars, end, api.ErrRange},
		{many, vars, api.ErrForm},
		{many, value, api.ErrMany},
		{site, vars, api.ErrForm},
		{fields, site, api.ErrNone}, // the thing ahead has the error that is named later
		{value, site, api.ErrNone},
		{value, fields, api.ErrForm},
	} {
		r := standing()
		c.one(&r)
		c.two(&r)
		if e := run.Check(p, r); e != c.want {
			t.Errorf("case %d: Check is %d, not %d", i, e, c.want)
		}
	}
	r := standing()
	r.At = -1
	for want, p := range wrongPrograms() {
		if e := run.Check(p, r); e != want {
			t.Errorf("Check of a wrong program is %d, not %d", e, want)
		}
	}
}

// after steps of one instruction, that stands at 0 ahead of two ends: from these variables, a thing of site 3 with a field for each.
func after(t *testing.T, line string, inputs []int, vars ...api.Value) api.Run {
	t.Helper()
	p := program(t, "vars "+strconv.Itoa(len(vars))+" fields 2\n"+line+"\nend\nend\nnew 0\n")
	r := api.Run{Vars: vars, Things: []api.Thing{made(3, number(5), thing(1)), made(3, null(), null())}}
	s, e := run.Step(p, r, inputs)
	if e != api.OK {
		t.Fatalf("%s of %v: %d", line, vars, e)
	}
	return s
}

// becomes: does a variable become this, and nothing else change?
func becomes(t *testing.T, line string, want api.Value, vars ...api.Value) {
	t.Helper()
	r := after(t, line, nil, vars...)
	all := slices.Clone(vars)
	all[0] = want
	if !slices.Equal(r.Vars, all) || r.At != 1 || r.End != 0 || r.Taken != 0 || len(r.Lines) != 0 || len(r.Things) != 2 {
		t.Errorf("%s of %v: %v, not %v", line, vars, r, want)
	}
}

func TestB2Values(t *testing.T) {
	becomes(t, "number 0 5", number(5), null())
	becomes(t, "number 0 -2147483648", number(api.Least), null())
	becomes(t, "truth 0 1", truth(1), null())
	becomes(t, "truth 0 0", truth(0), null())
	becomes(t, "null 0", null(), number(3))
	becomes(t, "copy 0 1", thing(1), null(), thing(1))
	becomes(t, "copy 0 1", null(), number(2), null())
	becomes(t, "get 0 1 0", number(5), null(), thing(0))
	becomes(t, "get 0 1 1", thing(1), null(), thing(0))
	becomes(t, "get 0 0 1", thing(1), thing(0))
	becomes(t, "get 0 1 1", null(), number(1), thing(1))
}

func TestB2Numbers(t *testing.T) {
	for _, c := range []struct {
		line       string
		a, b, want int
	}{
		{"add 0 1 2", 2, 3, 5},
		{"add 0 1 2", api.Most, 1, api.Least},
		{"add 0 1 2", api.Most, api.Most, -2},
		{"add 0 1 2", api.Least, -1, api.Most},
		{"add 0 1 2", api.Least, api.Least, 0},
		{"add 0 1 2", api.Least, api.Most, -1},
		{"sub 0 1 2", 2, 3, -1},
		{"sub 0 1 2", api.Least, 1, api.Most},
		{"sub 0 1 2", 0, api.Least, api.Least},
		{"sub 0 1 2", api.Most, api.Least, -1},
		{"mul 0 1 2", -4, 3, -12},
		{"mul 0 1 2", api.Most, api.Most, 1},
		{"mul 0 1 2", api.Least, api.Least, 0},
		{"mul 0 1 2", api.Least, -1, api.Least},
		{"mul 0 1 2", 65536, 65536, 0},
		{"mul 0 1 2", 65536, 32768, api.Least},
	} {
		becomes(t, c.line, number(c.want), null(), number(c.a), number(c.b))
	}
	becomes(t, "add 0 0 0", number(8), number(4))
	becomes(t, "less 0 1 2", truth(1), null(), number(-1), number(0))
	becomes(t, "less 0 1 2", truth(0), null(), number(0), number(0))
	becomes(t, "less 0 1 2", truth(0), null(), number(api.Most), number(api.Least))
	becomes(t, "less 0 1 2", truth(1), null(), number(api.Least), number(api.Most))
}

func TestB2SameAndNot(t *testing.T) {
	all := []api.Value{null(), number(0), number(1), number(-1), truth(0), truth(1), thing(0), thing(1)}
	for i, v := range all {
		for j, w := range all {
			is := 0
			if i == j {
				is = 1
			}
			becomes(t, "same 0 1 2", truth(is), null(), v, w)
		}
	}
	for i, n := range []int{1, 1, 0, 0, 1, 0, 0, 0} {
		becomes(t, "not 0 1", truth(n), null(), all[i])
		to, end := 2, 0
		if n == 1 {
			to, end = 1, api.EndFailed
		}
		if r := after(t, "if 0 2", nil, all[i]); r.At != to || r.End != 0 {
			t.Errorf("if %v: %v", all[i], r)
		}
		if r := after(t, "expect 0", nil, all[i]); r.End != end || r.At != 1-n {
			t.Errorf("expect %v: %v", all[i], r)
		}
	}
}

func TestB2Goto(t *testing.T) {
	for at := range 5 {
		if r := after(t, "goto "+strconv.Itoa(at), nil, null()); r.At != at || r.End != 0 {
			t.Errorf("goto %d: %v", at, r)
		}
		if r := after(t, "if 0 "+strconv.Itoa(at), nil, thing(0)); r.At != at || r.End != 0 {
			t.Errorf("if 0 %d: %v", at, r)
		}
	}
}

func TestB2Things(t *testing.T) {
	p := program(t, "vars 2 fields 3\nnull 0\nnew 1\n")
	r := api.Run{At: 1, Vars: []api.Value{null(), number(1)}, Things: []api.Thing{made(1, number(1), number(2), number(3))}}
	want := api.Run{At: 2, Vars: []api.Value{null(), thing(1)}, Things: append(deep(r).Things, api.Thing{Site: 1, Fields: make([]api.Value, 3)})}
	if s, e := run.Step(p, r, nil); !equal(s, want) || e != api.OK {
		t.Errorf("new: %v %d", s, e)
	}
	s := after(t, "put 0 1 1", nil, thing(0), number(9))
	if fields := s.Things[0].Fields; !slices.Equal(fields, []api.Value{number(5), number(9)}) || s.Things[1].Fields[1] != null() || s.At != 1 || s.Vars[0] != thing(0) {
		t.Errorf("put: %v", s)
	}
	s = after(t, "put 0 0 0", nil, thing(1))
	if s.Things[1].Fields[0] != thing(1) || s.Things[0].Fields[0] != number(5) {
		t.Errorf("put into itself: %v", s)
	}
}

func TestB2Input(t *testing.T) {
	p := program(t, "vars 1 fields 0\ninput 0 10\n")
	for _, c := range []struct {
		inputs      []int
		taken, want int
	}{
		{nil, 0, 0},
		{[]int{7}, 0, 7},
		{[]int{7}, 1, 0},
		{[]int{7}, 1 << 40, 0},
		{[]int{7, -8}, 1, -8},
		{[]int{10, -10, 11, -11}, 0, 10},
		{[]int{10, -10, 11, -11}, 1, -10},
		{[]int{10, -10, 11, -11}, 2, 10},
		{[]int{10, -10, 11, -11}, 3, -10},
		{[]int{math.MinInt, math.MaxInt}, 0, -10},
		{[]int{math.MinInt, math.MaxInt}, 1, 10},
	} {
		r := api.Run{Vars: []api.Value{truth(1)}, Taken: c.taken}
		want := api.Run{At: 1, Vars: []api.Value{number(c.want)}, Taken: c.taken + 1}
		if s, e := run.Step(p, r, c.inputs); !equal(s, want) || e != api.OK {
			t.Errorf("input %d of %v: %v %d", c.taken, c.inputs, s, e)
		}
	}
	if s := after(t, "input 0 0", []int{5}, null()); s.Vars[0] != number(0) || s.Taken != 1 {
		t.Errorf("input within 0: %v", s)
	}
	if s := after(t, "input 0 1000000", []int{-1 << 62}, null()); s.Vars[0] != number(-1000000) {
		t.Errorf("input within most: %v", s)
	}
}

func TestB2Print(t *testing.T) {
	p := program(t, "vars 1 fields 0\nprint 0\n")
	for want, v := range map[string]api.Value{"0": number(0), "-2147483648": number(api.Least), "2147483647": number(api.Most), "true": truth(1), "false": truth(0), "null": null()} {
		r := api.Run{Vars: []api.Value{v}, Lines: []string{"ahead"}}
		if s, e := run.Step(p, r, nil); !slices.Equal(s.Lines, []string{"ahead", want}) || s.At != 1 || e != api.OK {
			t.Errorf("print of %v: %v %d", v, s, e)
		}
	}
	if s := after(t, "print 0", nil, thing(1)); !slices.Equal(s.Lines, []string{"thing"}) {
		t.Errorf("print of a thing: %v", s)
	}
}

// ends: does a run end so at an instruction, and nothing else change?
func ends(t *testing.T, line string, end int, vars ...api.Value) {
	t.Helper()
	r := after(t, line, nil, vars...)
	if r.End != end || r.At != 0 || !slices.Equal(r.Vars, vars) || len(r.Things) != 2 || r.Things[0].Fields[0] != number(5) || r.Taken != 0 || len(r.Lines) != 0 {
		t.Errorf("%s of %v ends as %v", line, vars, r)
	}
}

func TestB3Ends(t *testing.T) {
	ends(t, "end", api.EndDone, number(1))
	for _, v := range []api.Value{null(), truth(1), truth(0), thing(0)} {
		for _, word := range []string{"add", "sub", "mul", "less"} {
			ends(t, word+" 0 1 2", api.EndWrong, null(), v, number(1))
			ends(t, word+" 0 1 2", api.EndWrong, null(), number(1), v)
			ends(t, word+" 0 1 2", api.EndWrong, null(), v, v)
		}
	}
	for _, v := range []api.Value{null(), number(0), number(1), truth(1), truth(0)} {
		ends(t, "get 0 1 0", api.EndWrong, null(), v)
		ends(t, "put 0 0 1", api.EndWrong, v, thing(0))
	}
	for _, v := range []api.Value{null(), number(0), truth(0)} {
		ends(t, "expect 0", api.EndFailed, v)
	}
}

func TestB3BehindTheLast(t *testing.T) {
	p := program(t, "vars 1 fields 0\nprint 0\n")
	r := api.Run{At: 1, Vars: []api.Value{number(4)}, Taken: 2, Lines: []string{"4"}}
	want := deep(r)
	want.End = api.EndDone
	if s, e := run.Step(p, r, nil); !equal(s, want) || e != api.OK {
		t.Errorf("behind the last one: %v %d", s, e)
	}
}

func TestB3TooManyThings(t *testing.T) {
	p := program(t, "vars 1 fields 1\nnew 0\n")
	r := api.Run{Vars: []api.Value{thing(3)}}
	for range 99 {
		r.Things = append(r.Things, api.Thing{Fields: make([]api.Value, 1)})
	}
	if s, e := run.Step(p, r, nil); len(s.Things) != 100 || s.Vars[0] != thing(99) || s.End != 0 || s.At != 1 || e != api.OK {
		t.Errorf("the last thing: %v %d", s, e)
	}
	r.Things = append(r.Things, api.Thing{Fields: make([]api.Value, 1)})
	want := deep(r)
	want.End = api.EndThings
	if s, e := run.Step(p, r, nil); !equal(s, want) || e != api.OK {
		t.Errorf("one thing more: %v %d", s, e)
	}
}

func TestB3EndedRunsStepNoMore(t *testing.T) {
	p := program(t, "vars 2 fields 2\nnew 0\nprint 0\nnew 1\n")
	for end := 1; end <= api.EndThings; end++ {
		for at := range 4 {
			r := standing()
			r.At, r.End = at, end
			if s, e := run.Step(p, r, nil); !equal(s, r) || e != api.OK {
				t.Errorf("%v steps to %v, %d", r, s, e)
			}
		}
	}
}

func TestB3ErrorsOfStep(t *testing.T) {
	p := program(t, "vars 2 fields 2\nnew 0\nprint 0\nnew 1\n")
	for i, do := range []func(r *api.Run){
		func(r *api.Run) { r.At = 4 },
		func(r *api.Run) { r.Vars = nil },
		func(r *api.Run) { r.Things = make([]api.Thing, 101) },
		func(r *api.Run) { r.Things[0].Site = 1 },
		func(r *api.Run) { r.Things[0].Fields = nil },
		func(r *api.Run) { r.Vars[0] = thing(2) },
		func(r *api.Run) { r.End, r.Vars[0] = api.EndDone, thing(2) },
	} {
		r := standing()
		do(&r)
		s, e := run.Step(p, r, nil)
		if want := run.Check(p, r); e != want || e == api.OK || !reflect.DeepEqual(s, api.Run{}) {
			t.Errorf("case %d: %v %d, not %d", i, s, e, want)
		}
	}
	for want, p := range wrongPrograms() {
		if s, e := run.Step(p, standing(), nil); e != want || !reflect.DeepEqual(s, api.Run{}) {
			t.Errorf("of a wrong program: %v %d, not %d", s, e, want)
		}
	}
}

func TestB4Run(t *testing.T) {
	p := program(t, "vars 1 fields 0\nnumber 0 5\nprint 0\n")
	five := []api.Value{number(5)}
	for fuel, want := range []api.Run{
		{Vars: make([]api.Value, 1), End: api.EndFuel},
		{At: 1, Vars: five, End: api.EndFuel},
		{At: 2, Vars: five, Lines: []string{"5"}, End: api.EndFuel},
		{At: 2, Vars: five, Lines: []string{"5"}, End: api.EndDone},
		{At: 2, Vars: five, Lines: []string{"5"}, End: api.EndDone},
	} {
		if r, n, e := run.Run(p, nil, fuel); !equal(r, want) || n != min(fuel, 3) || e != api.OK {
			t.Errorf("fuel %d: %v %d %d", fuel, r, n, e)
		}
	}
}

func TestB4Fuel(t *testing.T) {
	loop := program(t, "vars 1 fields 0\ngoto 0\n")
	if r, n, e := run.Run(loop, nil, 5000); r.End != api.EndFuel || n != 5000 || e != api.OK {
		t.Errorf("the most fuel: %v %d %d", r, n, e)
	}
	for _, fuel := range []int{-1, 5001, math.MinInt, math.MaxInt} {
		if r, n, e := run.Run(loop, nil, fuel); !reflect.DeepEqual(r, api.Run{}) || n != 0 || e != api.ErrRange {
			t.Errorf("fuel %d: %v %d %d", fuel, r, n, e)
		}
		for want, p := range wrongPrograms() {
			if r, n, e := run.Run(p, nil, fuel); !reflect.DeepEqual(r, api.Run{}) || n != 0 || e != want {
				t.Errorf("fuel %d of a wrong program: %v %d %d, not %d", fuel, r, n, e, want)
			}
		}
	}
}

func TestB4Ends(t *testing.T) {
	for _, c := range []struct {
		lines          string
		at, steps, end int
	}{
		{"", 0, 1, api.EndDone},
		{"end\n", 0, 1, api.EndDone},
		{"goto 2\nend\n", 2, 2, api.EndDone},
		{"null 0\nadd 0 0 0\n", 1, 2, api.EndWrong},
		{"null 0\nexpect 0\n", 1, 2, api.EndFailed},
		{"new 0\ngoto 0\n", 0, 201, api.EndThings},
		{"goto 0\n", 0, 1000, api.EndFuel},
	} {
		p := program(t, "vars 1 fields 1\n"+c.lines)
		if r, n, e := run.Run(p, nil, 1000); r.At != c.at || n != c.steps || r.End != c.end || e != api.OK {
			t.Errorf("%q: %v %d %d", c.lines, r, n, e)
		}
	}
}

// some programs that do much, for what must hold of all.
func some(t *testing.T) []api.Program {
	return []api.Program{
		program(t, "vars 3 fields 0\nnumber 0 0\nnumber 1 1\ninput 2 10\nadd 0 0 1\nprint 0\nsub 2 2 1\nif 2 3\nend\n"),
		program(t, "vars 4 fields 1\nnumber 0 3\nnumber 1 -1\nnull 2\nnew 3\nput 3 0 2\ncopy 2 3\nadd 0 0 1\nif 0 3\nget 2 2 0\nget 2 2 0\nprint 2\nexpect 2\nend\n"),
		program(t, "vars 5 fields 2\nnew 0\nnew 1\nput 0 0 1\nput 1 0 0\ninput 2 1\nif 2 8\ncopy 3 0\ngoto 9\ncopy 3 1\nput 3 1 2\nget 4 3 0\nget 4 4 1\nprint 4\nsame 4 3 0\nadd 4 4 2\n"),
		program(t, "vars 1 fields 3\nnew 0\nprint 0\ngoto 0\n"),
	}
}

func TestB4IsStepByStep(t *testing.T) {
	for i, p := range some(t) {
		for _, inputs := range [][]int{nil, {4}, {-9, 9}} {
			r, _ := run.Begin(p)
			for fuel := range 60 {
				want, steps := deep(r), fuel
				if r.End == 0 {
					want.End = api.EndFuel
				}
				got, n, e := run.Run(p, inputs, fuel)
				if r.End != 0 {
					steps = n
				}
				if !equal(got, want) || n != steps || n > fuel || e != api.OK {
					t.Fatalf("program %d, fuel %d: %v %d, not %v %d", i, fuel, got, n, want, steps)
				}
				if r, e = run.Step(p, r, inputs); e != api.OK || run.Check(p, r) != api.OK {
					t.Fatalf("program %d, step %d: %v %d", i, fuel, r, e)
				}
			}
		}
	}
}

func TestP1WhateverIsHandedIn(t *testing.T) {
	rnd := rand.New(rand.NewSource(1))
	odd := []int{0, 0, 0, 1, 1, 2, 3, 4, 5, 6, 7, -1, math.MinInt, math.MaxInt, api.Most + 1}
	any := func() int { return odd[rnd.Intn(len(odd))] }
	values := func(n int) (l []api.Value) {
		for range n {
			l = append(l, api.Value{Kind: rnd.Intn(4), N: rnd.Intn(3)})
		}
		if n > 0 && rnd.Intn(4) == 0 {
			l[0] = api.Value{Kind: any(), N: any()}
		}
		return l
	}
	good := 0
	for range 20000 {
		p := some(t)[rnd.Intn(4)]
		if rnd.Intn(9) == 0 {
			p.Code[0].Kind = any()
		}
		r := api.Run{At: rnd.Intn(17), Vars: values(p.Vars), Taken: rnd.Intn(3), End: rnd.Intn(2)}
		for range rnd.Intn(4) {
			r.Things = append(r.Things, api.Thing{Site: rnd.Intn(4), Fields: values(p.Fields)})
		}
		if rnd.Intn(9) == 0 {
			r.At, r.Taken, r.End = any(), any(), any()
		}
		want := run.Check(p, r)
		s, e := run.Step(p, r, []int{any()})
		if e != want || want != api.OK && !reflect.DeepEqual(s, api.Run{}) {
			t.Fatalf("%v steps to %v, %d, not %d", r, s, e, want)
		}
		if e == api.OK {
			good++
		}
		if r, n, e := run.Run(p, []int{any()}, rnd.Intn(9)); e != code.Check(p) || e != api.OK && (n != 0 || !reflect.DeepEqual(r, api.Run{})) {
			t.Fatalf("%v runs to %v, %d %d", p, r, n, e)
		}
	}
	if good < 100 {
		t.Errorf("only %d runs were right", good)
	}
}

// roomy is a run with spare room behind each list, and all of that room.
func roomy() (api.Run, [][]api.Value, []api.Thing, []string) {
	vars, one, two := make([]api.Value, 9), make([]api.Value, 9), make([]api.Value, 9)
	for i := range 9 {
		vars[i], one[i], two[i] = number(i), number(10+i), number(20+i)
	}
	vars[0] = thing(0)
	things := []api.Thing{made(0, one[:2]...), made(0, two[:2]...), made(7, one...), made(8, two...)}
	lines := []string{"a", "b", "c", "d"}
	r := api.Run{Vars: vars[:2], Things: things[:2], Lines: lines[:2]}
	return r, [][]api.Value{vars, one, two}, things, lines
}

// instructions that change something, each ahead of which a new one stands.
func changing() []string {
	return []string{"new 0", "number 0 3", "put 0 0 1", "get 1 0 0", "print 1", "input 1 5", "copy 1 0", "end"}
}

func TestP2WhatIsHandedInIsOnlyRead(t *testing.T) {
	for _, line := range changing() {
		p := program(t, "vars 2 fields 2\nnew 0\n"+line+"\n")
		r, values, things, lines := roomy()
		r.At = 1
		inputs := []int{1, 2, 3}
		_, freshValues, freshThings, freshLines := roomy()
		s, e := run.Step(p, r, inputs[:1])
		if e != api.OK {
			t.Fatal(line, e)
		}
		if !reflect.DeepEqual(values, freshValues) || !reflect.DeepEqual(things, freshThings) || !slices.Equal(lines, freshLines) || !slices.Equal(inputs, []int{1, 2, 3}) {
			t.Errorf("%s changes what was handed in", line)
		}
		before := deep(s)
		for _, l := range values {
			clear(l)
		}
		clear(things)
		clear(lines)
		clear(p.Code)
		if !equal(s, before) {
			t.Errorf("%s answers what was handed in", line)
		}
	}
}

// apart: does no list of a run share memory with another one, its spare room too?
func apart(t *testing.T, r api.Run) {
	t.Helper()
	lists := [][]api.Value{r.Vars}
	for _, x := range r.Things {
		lists = append(lists, x.Fields)
	}
	for i, l := range lists {
		l = l[:cap(l)]
		for j := range l {
			l[j] = number(1000 + i)
		}
	}
	for i, l := range lists {
		for _, v := range l[:cap(l)] {
			if v != number(1000+i) {
				t.Fatalf("lists share memory: %v", r)
			}
		}
	}
}

func TestP2ListsOfAnAnswerAreApart(t *testing.T) {
	shared := []api.Value{number(1), number(2)}
	for _, line := range changing() {
		p := program(t, "vars 2 fields 2\nnew 0\n"+line+"\n")
		r := api.Run{At: 1, Vars: []api.Value{thing(1), number(1)}, Things: []api.Thing{made(0, shared...), made(0, shared...), made(0, shared...)}}
		s, e := run.Step(p, r, nil)
		if e != api.OK {
			t.Fatal(line, e)
		}
		apart(t, s)
	}
	for _, p := range some(t) {
		r, _, _ := run.Run(p, nil, 100)
		apart(t, r)
	}
}

func TestP2AliasedFieldsAreOnlyPutOnce(t *testing.T) {
	p := program(t, "vars 2 fields 1\nput 0 0 1\nnew 0\n")
	shared := []api.Value{null()}
	r := api.Run{Vars: []api.Value{thing(0), number(3)}, Things: []api.Thing{made(1, shared...), made(1, shared...)}}
	s, _ := run.Step(p, r, nil)
	if s.Things[0].Fields[0] != number(3) || s.Things[1].Fields[0] != null() {
		t.Errorf("put: %v", s)
	}
}

func TestP3TheSameEachTime(t *testing.T) {
	for _, p := range some(t) {
		first, n, _ := run.Run(p, []int{3, 2}, 300)
		want := deep(first)
		apart(t, first) // writes all over an answer: no later one may show it
		for range 5 {
			r, m, e := run.Run(p, []int{3, 2}, 300)
			if !equal(r, want) || n != m || e != api.OK {
				t.Errorf("another time it runs to %v, %d %d", r, m, e)
			}
		}
	}
}

func TestP4LongRuns(t *testing.T) {
	p := program(t, "vars 1 fields 0\n"+strings.Repeat("print 0\n", 59)+"goto 0\n")
	r, n, e := run.Run(p, nil, api.MaxFuel)
	if len(r.Lines) != 5000-5000/60 || n != 5000 || r.End != api.EndFuel || e != api.OK {
		t.Errorf("%d lines, %d steps, %d %d", len(r.Lines), n, r.End, e)
	}
	inputs := make([]int, 1<<20)
	inputs[1<<20-1] = 5
	q := program(t, "vars 1 fields 0\ninput 0 9\n")
	if s, e := run.Step(q, api.Run{Vars: make([]api.Value, 1), Taken: 1<<20 - 1}, inputs); s.Vars[0] != number(5) || e != api.OK {
		t.Errorf("of many inputs: %v %d", s, e)
	}
}
