package code_test

import (
	"math"
	"math/rand"
	"slices"
	"strconv"
	"strings"
	"testing"

	"soundings/api"
	"soundings/code"
)

// sample is a right instruction of each kind (in a program of 8 variables, 3 fields and one instruction), the parts that its kind names, and its line.
type sample struct {
	instr api.Instr
	names string
	line  string
}

func samples() []sample {
	return []sample{
		{api.Instr{Kind: api.CodeNumber, To: 1, N: -7}, "To N", "number 1 -7"},
		{api.Instr{Kind: api.CodeTruth, To: 2, N: 1}, "To N", "truth 2 1"},
		{api.Instr{Kind: api.CodeNull, To: 3}, "To", "null 3"},
		{api.Instr{Kind: api.CodeCopy, To: 4, A: 5}, "To A", "copy 4 5"},
		{api.Instr{Kind: api.CodeAdd, To: 1, A: 2, B: 3}, "To A B", "add 1 2 3"},
		{api.Instr{Kind: api.CodeSub, To: 4, A: 5, B: 6}, "To A B", "sub 4 5 6"},
		{api.Instr{Kind: api.CodeMul, To: 7, A: 6, B: 5}, "To A B", "mul 7 6 5"},
		{api.Instr{Kind: api.CodeLess, To: 3, A: 2, B: 1}, "To A B", "less 3 2 1"},
		{api.Instr{Kind: api.CodeSame, To: 1, A: 3, B: 5}, "To A B", "same 1 3 5"},
		{api.Instr{Kind: api.CodeNot, To: 6, A: 7}, "To A", "not 6 7"},
		{api.Instr{Kind: api.CodeNew, To: 5}, "To", "new 5"},
		{api.Instr{Kind: api.CodeGet, To: 4, A: 3, N: 2}, "To A N", "get 4 3 2"},
		{api.Instr{Kind: api.CodePut, A: 4, N: 1, B: 3}, "A N B", "put 4 1 3"},
		{api.Instr{Kind: api.CodeInput, To: 2, N: 99}, "To N", "input 2 99"},
		{api.Instr{Kind: api.CodeIf, A: 3, Goto: 1}, "A Goto", "if 3 1"},
		{api.Instr{Kind: api.CodeGoto, Goto: 1}, "Goto", "goto 1"},
		{api.Instr{Kind: api.CodeExpect, A: 6}, "A", "expect 6"},
		{api.Instr{Kind: api.CodePrint, A: 7}, "A", "print 7"},
		{api.Instr{Kind: api.CodeEnd}, "", "end"},
	}
}

// field of an instruction by its name.
func field(x *api.Instr, name string) *int {
	return map[string]*int{"To": &x.To, "A": &x.A, "B": &x.B, "N": &x.N, "Goto": &x.Goto}[name]
}

// bound of what a part may be, in a program of 8 variables, 3 fields and one instruction, and the error beyond.
func bound(kind int, name string) (int, int, api.Errno) {
	switch {
	case name == "Goto":
		return 0, 1, api.ErrNone
	case name != "N":
		return 0, 7, api.ErrNone
	case kind == api.CodeNumber:
		return -2147483648, 2147483647, api.ErrRange
	case kind == api.CodeTruth:
		return 0, 1, api.ErrRange
	case kind == api.CodeInput:
		return 0, 1000000, api.ErrRange
	}
	return 0, 2, api.ErrNone
}

func one(x api.Instr) api.Program {
	return api.Program{Vars: 8, Fields: 3, Code: []api.Instr{x}}
}

func ends(n int) []api.Instr {
	return slices.Repeat([]api.Instr{{Kind: api.CodeEnd}}, n)
}

func same(p, q api.Program) bool {
	return p.Vars == q.Vars && p.Fields == q.Fields && slices.Equal(p.Code, q.Code)
}

func checkIs(t *testing.T, what string, p api.Program, want api.Errno) {
	t.Helper()
	if e := code.Check(p); e != want {
		t.Errorf("%s: Check of %v is %d, not %d", what, p, e, want)
	}
}

func TestA1SizesOfPrograms(t *testing.T) {
	bad := []api.Instr{{Kind: 99}}
	for _, c := range []struct {
		p    api.Program
		want api.Errno
	}{
		{api.Program{}, api.ErrRange},
		{api.Program{Vars: 1}, api.OK},
		{api.Program{Vars: 8, Fields: 3}, api.OK},
		{api.Program{Vars: 0, Fields: 1}, api.ErrRange},
		{api.Program{Vars: -1}, api.ErrRange},
		{api.Program{Vars: 9}, api.ErrRange},
		{api.Program{Vars: math.MaxInt}, api.ErrRange},
		{api.Program{Vars: math.MinInt}, api.ErrRange},
		{api.Program{Vars: 1, Fields: -1}, api.ErrRange},
		{api.Program{Vars: 1, Fields: 4}, api.ErrRange},
		{api.Program{Vars: 1, Code: []api.Instr{}}, api.OK},
		{api.Program{Vars: 1, Code: ends(60)}, api.OK},
		{api.Program{Vars: 1, Code: ends(61)}, api.ErrMany},
		{api.Program{Vars: 9, Code: ends(61)}, api.ErrRange},
		{api.Program{Vars: 1, Code: append(bad, ends(60)...)}, api.ErrMany},
		{api.Program{Vars: 0, Code: bad}, api.ErrRange},
	} {
		checkIs(t, "sizes", c.p, c.want)
	}
}

func TestA1Kinds(t *testing.T) {
	for _, kind := range []int{0, -1, 20, 21, math.MaxInt, math.MinInt} {
		checkIs(t, "kind", one(api.Instr{Kind: kind}), api.ErrKind)
		checkIs(t, "kind first", one(api.Instr{Kind: kind, To: -1, A: 9, B: 9, N: -1, Goto: 9}), api.ErrKind)
	}
	if len(samples()) != api.CodeEnd {
		t.Fatal("a kind has no sample")
	}
	for _, s := range samples() {
		checkIs(t, s.line, one(s.instr), api.OK)
	}
}

func TestA1NamedParts(t *testing.T) {
	for _, s := range samples() {
		for _, name := range strings.Fields(s.names) {
			least, most, wrong := bound(s.instr.Kind, name)
			for n, want := range map[int]api.Errno{least: api.OK, most: api.OK, least - 1: wrong, most + 1: wrong, math.MinInt: wrong, math.MaxInt: wrong} {
				x := s.instr
				*field(&x, name) = n
				checkIs(t, s.line+": "+name, one(x), want)
			}
		}
	}
}

func TestA1PartsThatAreNotNamed(t *testing.T) {
	for _, s := range samples() {
		for _, name := range []string{"To", "A", "B", "N", "Goto"} {
			if slices.Contains(strings.Fields(s.names), name) {
				continue
			}
			for _, n := range []int{1, -1, math.MinInt, math.MaxInt} {
				x := s.instr
				*field(&x, name) = n
				checkIs(t, s.line+": "+name, one(x), api.ErrForm)
			}
		}
	}
}

func TestA1WithoutFields(t *testing.T) {
	for _, kind := range []int{api.CodeGet, api.CodePut} {
		checkIs(t, "no fields", api.Program{Vars: 1, Code: []api.Instr{{Kind: kind}}}, api.ErrNone)
		checkIs(t, "one field", api.Program{Vars: 1, Fields: 1, Code: []api.Instr{{Kind: kind}}}, api.OK)
	}
}

func TestA1OrderOfErrors(t *testing.T) {
	checkIs(t, "none ahead of range", one(api.Instr{Kind: api.CodeNumber, To: 8, N: 1 << 40}), api.ErrNone)
	checkIs(t, "none ahead of range", one(api.Instr{Kind: api.CodeTruth, To: -1, N: 2}), api.ErrNone)
	checkIs(t, "none ahead of range", one(api.Instr{Kind: api.CodeInput, To: 8, N: -1}), api.ErrNone)
	checkIs(t, "none ahead of form", one(api.Instr{Kind: api.CodeCopy, To: 8, B: 1}), api.ErrNone)
	checkIs(t, "none ahead of form", one(api.Instr{Kind: api.CodePut, To: 1, N: 3}), api.ErrNone)
	checkIs(t, "range ahead of form", one(api.Instr{Kind: api.CodeTruth, N: 2, Goto: 1}), api.ErrRange)
	form, kind := api.Instr{Kind: api.CodeEnd, N: 1}, api.Instr{}
	checkIs(t, "one by one", api.Program{Vars: 1, Code: []api.Instr{form, kind}}, api.ErrForm)
	checkIs(t, "one by one", api.Program{Vars: 1, Code: []api.Instr{kind, form}}, api.ErrKind)
	checkIs(t, "the last one", api.Program{Vars: 1, Code: append(ends(59), form)}, api.ErrForm)
}

func TestA1OthersTellItFirst(t *testing.T) {
	for _, p := range []api.Program{{}, {Vars: 1, Code: ends(61)}, one(api.Instr{}), one(api.Instr{Kind: api.CodeNull, To: 8}), one(api.Instr{Kind: api.CodeEnd, A: 1})} {
		want := code.Check(p)
		if s, e := code.Print(p); s != "" || e != want || e == api.OK {
			t.Errorf("Print of %v: %q %d", p, s, e)
		}
		if l, e := code.Heads(p); len(l) != 0 || e != want {
			t.Errorf("Heads of %v: %v %d", p, l, e)
		}
	}
}

func TestA2Print(t *testing.T) {
	for _, s := range samples() {
		want := "vars 8 fields 3\n" + s.line + "\n"
		if got, e := code.Print(one(s.instr)); got != want || e != api.OK {
			t.Errorf("%q is printed as %q, %d", want, got, e)
		}
	}
	p := api.Program{Vars: 1, Code: []api.Instr{{Kind: api.CodeNumber, N: 5}, {Kind: api.CodePrint}}}
	if got, e := code.Print(p); got != "vars 1 fields 0\nnumber 0 5\nprint 0\n" || e != api.OK {
		t.Errorf("it is printed as %q, %d", got, e)
	}
	if got, e := code.Print(api.Program{Vars: 2, Fields: 1}); got != "vars 2 fields 1\n" || e != api.OK {
		t.Errorf("without code it is printed as %q, %d", got, e)
	}
	p = one(api.Instr{Kind: api.CodeNumber, N: api.Least})
	if got, _ := code.Print(p); got != "vars 8 fields 3\nnumber 0 -2147483648\n" {
		t.Errorf("the least number is printed as %q", got)
	}
}

func TestA3Parse(t *testing.T) {
	text, want := "vars 8 fields 3\n", api.Program{Vars: 8, Fields: 3}
	for _, s := range samples() {
		text += s.line + "\n"
		want.Code = append(want.Code, s.instr)
	}
	if p, line, e := code.Parse(text); !same(p, want) || line != 0 || e != api.OK {
		t.Errorf("it is parsed as %v, %d %d", p, line, e)
	}
	if p, line, e := code.Parse("vars 1 fields 0\n"); !same(p, api.Program{Vars: 1}) || line != 0 || e != api.OK {
		t.Errorf("without code it is parsed as %v, %d %d", p, line, e)
	}
}

func parseFails(t *testing.T, text string, line int, want api.Errno) {
	t.Helper()
	p, n, e := code.Parse(text)
	if !same(p, api.Program{}) || p.Code != nil || n != line || e != want {
		t.Errorf("Parse of %.60q: %v, %d at %d, not %d at %d", text, p, e, n, want, line)
	}
}

func TestA3LinesThatAreNone(t *testing.T) {
	for _, head := range []string{"", "\n", "vars 1 fields 0", " vars 1 fields 0\n", "vars 1 fields 0 \n", "vars 1  fields 0\n", "vars 1 fields\n", "vars 1\n", "fields 0 vars 1\n", "Vars 1 fields 0\n", "vars 1 fields 0 0\n", "vars 1 field 0\n", "vars x fields 0\n", "vars 1 fields x\n", "vars 1\tfields 0\n", "vars 1 fields 0\r\n", "end\n", "vars 01 fields 0\n", "vars 1 fields 00\n", "vars 1 fields -0\n", "vars  fields 0\n", "\xff\n"} {
		parseFails(t, head, 1, api.ErrForm)
		parseFails(t, head+"nop\n", 1, api.ErrForm)
	}
	for _, line := range []string{"", "end ", " end", "End", "nop", "end 0", "add 0 0", "add 0 0 0 0", "add 0  0 0", "add 0 0 ", "number 0", "number 0 +1", "number 0 00", "number 0 01", "number 0 -0", "number 0 -01", "number 0 -", "number 0 --1", "number 0 0x1", "number 0 1_0", "number 0 1.", "number 0 1e1", "number 0 \xd9\xa1", "number a 1", "number 0 -99999999999", "number 0 100000000000", "number 0 99999999999999999999", "null", "put 0 0", "goto", "goto 0 0", "if 0", "print", "vars 1 fields 0", "end\x00", "end\r", "\x00"} {
		parseFails(t, "vars 1 fields 1\n"+line+"\n", 2, api.ErrForm)
		parseFails(t, "vars 1 fields 1\nend\n"+line+"\nnop\n", 3, api.ErrForm)
	}
	parseFails(t, "vars 1 fields 0\nend", 2, api.ErrForm)
	parseFails(t, "vars 1 fields 0\nend\nend", 3, api.ErrForm)
}

func TestA3WhatCheckSays(t *testing.T) {
	head := "vars 1 fields 1\n"
	parseFails(t, "vars 0 fields 0\n", 0, api.ErrRange)
	parseFails(t, "vars -1 fields 0\n", 0, api.ErrRange)
	parseFails(t, "vars 1 fields 4\n", 0, api.ErrRange)
	parseFails(t, head+"add 0 0 1\n", 0, api.ErrNone)
	parseFails(t, head+"put 0 1 0\n", 0, api.ErrNone)
	parseFails(t, head+"goto 2\n", 0, api.ErrNone)
	parseFails(t, head+"goto -1\n", 0, api.ErrNone)
	parseFails(t, head+"truth 0 2\n", 0, api.ErrRange)
	parseFails(t, head+"number 0 2147483648\n", 0, api.ErrRange)
	parseFails(t, head+"number 0 99999999999\n", 0, api.ErrRange)
	parseFails(t, head+"number 0 -9999999999\n", 0, api.ErrRange)
	parseFails(t, head+"input 0 1000001\n", 0, api.ErrRange)
	parseFails(t, head+strings.Repeat("end\n", 61), 0, api.ErrMany)
	parseFails(t, "vars 0 fields 0\nnull 9\nnop\n", 3, api.ErrForm)
	parseFails(t, head+strings.Repeat("end\n", 100)+"nop\n", 102, api.ErrForm)
}

func TestA3LongTexts(t *testing.T) {
	head := "vars 1 fields 0\n"
	full := head + strings.Repeat("end\n", (4000-len(head))/4)
	if len(full) != 4000 {
		t.Fatal(len(full))
	}
	parseFails(t, full, 0, api.ErrMany) // 4000 bytes are not too many, 996 instructions are
	parseFails(t, strings.Repeat("x", 4000), 1, api.ErrForm)
	parseFails(t, strings.Repeat("x", 4001), 0, api.ErrMany)
	parseFails(t, head+strings.Repeat("\n", 4000), 0, api.ErrMany)
}

func headsAre(t *testing.T, lines string, want ...int) {
	t.Helper()
	p, _, e := code.Parse("vars 2 fields 0\n" + lines)
	if e != api.OK {
		t.Fatal(lines, e)
	}
	if l, e := code.Heads(p); !slices.Equal(l, want) || e != api.OK {
		t.Errorf("heads of %q: %v %d, not %v", lines, l, e, want)
	}
}

func TestA4Heads(t *testing.T) {
	headsAre(t, "")
	headsAre(t, "end\nend\n")
	headsAre(t, "goto 1\n")
	headsAre(t, "goto 0\n", 0)
	headsAre(t, "if 0 0\n", 0)
	headsAre(t, "end\nif 0 0\ngoto 0\n", 0)
	headsAre(t, "goto 2\nend\nprint 0\n")
	headsAre(t, "end\nend\nend\ngoto 2\nif 1 1\ngoto 6\n", 1, 2)
	headsAre(t, "goto 2\nadd 0 0 0\nif 0 1\nif 0 4\nend\n", 1)
	headsAre(t, "goto 2\nend\ngoto 2\n", 2)
}

// draw a right program.
func draw(r *rand.Rand) api.Program {
	p := api.Program{Vars: 1 + r.Intn(8), Fields: r.Intn(4), Code: make([]api.Instr, r.Intn(61))}
	numbers := []int{0, 1, -1, api.Least, api.Most, r.Intn(1000) - 500}
	for i := range p.Code {
		s := samples()[r.Intn(19)]
		if p.Fields == 0 && (s.instr.Kind == api.CodeGet || s.instr.Kind == api.CodePut) {
			s = samples()[18]
		}
		x := api.Instr{Kind: s.instr.Kind}
		for _, name := range strings.Fields(s.names) {
			switch _, most, _ := bound(x.Kind, name); {
			case name == "Goto":
				x.Goto = r.Intn(len(p.Code) + 1)
			case name != "N":
				*field(&x, name) = r.Intn(p.Vars)
			case x.Kind == api.CodeNumber:
				x.N = numbers[r.Intn(len(numbers))]
			case x.Kind == api.CodeGet || x.Kind == api.CodePut:
				x.N = r.Intn(p.Fields)
			default:
				x.N = r.Intn(most + 1)
			}
		}
		p.Code[i] = x
	}
	return p
}

func TestA5WhatIsPrintedIsParsedAsItWas(t *testing.T) {
	r := rand.New(rand.NewSource(1))
	for range 2000 {
		p := draw(r)
		s, e := code.Print(p)
		if e != api.OK {
			t.Fatalf("Print of %v: %d", p, e)
		}
		if q, line, e := code.Parse(s); !same(p, q) || line != 0 || e != api.OK {
			t.Fatalf("%q is parsed as %v, %d %d", s, q, line, e)
		}
	}
}

func TestA5NothingElseIsParsed(t *testing.T) {
	r := rand.New(rand.NewSource(2))
	const bytes = "0123456789- \n\r\tvarsfieldn+x\x00\xff"
	parsed := 0
	for range 20000 {
		p := draw(r)
		p.Code = p.Code[:min(len(p.Code), 6)]
		s, e := code.Print(p)
		if e != api.OK {
			continue
		}
		b := []byte(s)
		for range 1 + r.Intn(2) {
			i, c := r.Intn(len(b)), bytes[r.Intn(len(bytes))]
			switch r.Intn(3) {
			case 0:
				b[i] = c
			case 1:
				b = slices.Insert(b, i, c)
			case 2:
				b = slices.Delete(b, i, i+1)
			}
		}
		q, _, e := code.Parse(string(b))
		if e != api.OK {
			continue
		}
		parsed++
		if again, e := code.Print(q); again != string(b) || e != api.OK {
			t.Fatalf("%q is parsed, and printed as %q", b, again)
		}
	}
	if parsed == 0 {
		t.Error("nothing was parsed")
	}
}

func TestP1WhateverIsHandedIn(t *testing.T) {
	r := rand.New(rand.NewSource(3))
	odd := []int{0, 0, 1, 2, 3, 7, 8, 12, 13, 15, 16, 19, 20, 60, 61, -1, math.MinInt, math.MaxInt, api.Most + 1, api.Least - 1}
	any := func() int { return odd[r.Intn(len(odd))] }
	for range 20000 {
		p := api.Program{Vars: r.Intn(10), Fields: r.Intn(5)}
		for range r.Intn(4) {
			p.Code = append(p.Code, api.Instr{Kind: any(), To: any(), A: any(), B: any(), N: any(), Goto: any()})
		}
		want := code.Check(p)
		s, e := code.Print(p)
		l, f := code.Heads(p)
		if e != want || f != want || want != api.OK && (s != "" || len(l) != 0) || want == api.OK && s == "" {
			t.Fatalf("of %v: %d; %q %d; %v %d", p, want, s, e, l, f)
		}
	}
	for range 20000 {
		b := make([]byte, r.Intn(40))
		r.Read(b)
		if p, line, e := code.Parse(string(b)); !same(p, api.Program{}) || e != api.ErrForm || line < 1 {
			t.Fatalf("Parse of %q: %v %d %d", b, p, line, e)
		}
	}
}

func TestP2WhatIsHandedInIsOnlyRead(t *testing.T) {
	room := make([]api.Instr, 4, 8)
	for i := range room[:8] {
		room[:8][i] = api.Instr{Kind: api.CodeGoto, Goto: i % 3}
	}
	before := slices.Clone(room[:8])
	p := api.Program{Vars: 1, Code: room}
	code.Check(p)
	code.Print(p)
	heads, _ := code.Heads(p)
	if !slices.Equal(room[:8], before) {
		t.Error("what was handed in is changed")
	}
	room[0], room[3] = api.Instr{Kind: api.CodeEnd}, api.Instr{Kind: api.CodeEnd}
	if !slices.Equal(heads, []int{0, 1, 2}) {
		t.Errorf("heads are %v", heads)
	}
}

func TestP2AnswersAreNew(t *testing.T) {
	const text = "vars 1 fields 0\nprint 0\ngoto 0\n"
	p, _, _ := code.Parse(text)
	h, _ := code.Heads(p)
	p.Code[0], h[0] = api.Instr{}, 9
	q, _, _ := code.Parse(text)
	if s, e := code.Print(q); s != text || e != api.OK {
		t.Errorf("it is parsed otherwise the second time: %q %d", s, e)
	}
	if h, _ := code.Heads(q); !slices.Equal(h, []int{0}) {
		t.Errorf("heads are others the second time: %v", h)
	}
}

func TestP3TheSameEachTime(t *testing.T) {
	r := rand.New(rand.NewSource(4))
	for i := range 50 {
		p := draw(r)
		s, _ := code.Print(p)
		h, _ := code.Heads(p)
		broken := s + "nop " + strconv.Itoa(i) + "\n"
		_, line, e := code.Parse(broken)
		for range 20 {
			again, _ := code.Print(p)
			heads, _ := code.Heads(p)
			_, l, f := code.Parse(broken)
			if again != s || !slices.Equal(heads, h) || l != line || f != e {
				t.Fatalf("of %v it is otherwise another time", p)
			}
		}
	}
}
