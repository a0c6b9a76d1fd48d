package alarm_test

import (
	"math/rand"
	"slices"
	"strconv"
	"strings"
	"testing"

	"soundings/alarm"
	"soundings/api"
	"soundings/code"
	"soundings/solve"
	"soundings/step"
)

func parse(t *testing.T, text string) api.Program {
	t.Helper()
	p, line, e := code.Parse(text)
	if e != api.OK {
		t.Fatalf("%q: %d at %d", text, e, line)
	}
	return p
}

// text of a program of 4 variables and 2 fields.
func text(lines ...string) string {
	return "vars 4 fields 2\n" + strings.Join(append(lines, ""), "\n")
}

// words for alarms, as they are reported.
func words(l []api.Alarm) string {
	var all []string
	for _, a := range l {
		word := map[int]string{api.AlarmWrong: "wrong", api.AlarmFailed: "failed", api.AlarmIdle: "idle"}[a.Kind]
		all = append(all, strconv.Itoa(a.At)+" "+word)
	}
	return strings.Join(all, ", ")
}

// alarmed: these are the alarms of a program, it is sure if there are none but idle ones, and all of them are reported.
func alarmed(t *testing.T, want string, lines ...string) {
	t.Helper()
	p := parse(t, text(lines...))
	if l, e := alarm.Alarms(p); words(l) != want || e != api.OK {
		t.Errorf("alarms of %q are %v, %d, not %s", lines, l, e, want)
	}
	isSure := !strings.Contains(want, "wrong") && !strings.Contains(want, "failed")
	if sure, e := alarm.Sure(p); sure != isSure || e != api.OK {
		t.Errorf("%q is sure: %v, %d", lines, sure, e)
	}
	report := strings.ReplaceAll(want, ", ", "\n")
	if report != "" {
		report += "\n"
	}
	if s, e := alarm.Report(text(lines...)); s != report || e != api.OK {
		t.Errorf("the report on %q is %q, %d", lines, s, e)
	}
}

func TestH1NoAlarms(t *testing.T) {
	alarmed(t, "")
	alarmed(t, "", "number 0 5", "print 0")
	alarmed(t, "", "end")
	alarmed(t, "", "goto 0")
	alarmed(t, "", "print 0", "goto 0")
	alarmed(t, "", "new 0", "put 0 1 0", "get 1 0 1", "expect 0")
	alarmed(t, "", "input 0 5", "less 1 0 0", "not 1 1", "same 1 1 0", "copy 2 1")
	alarmed(t, "", "input 0 5", "not 0 0", "if 0 4", "end", "expect 0")
	alarmed(t, "", "input 0 5", "input 1 1", "sub 0 0 1", "if 0 1", "print 0")
}

func TestH1Wrong(t *testing.T) {
	for _, line := range []string{"add 0 1 1", "sub 0 1 1", "mul 0 1 1", "less 0 1 1", "get 0 1 0", "put 1 0 0"} {
		alarmed(t, "0 wrong", line)
		alarmed(t, "0 wrong, 1 idle", line, "print 0")
		alarmed(t, "1 wrong, 2 idle", "truth 1 1", line, "end")
	}
	for _, line := range []string{"add 0 1 2", "sub 0 2 1", "mul 0 1 2", "less 0 2 1"} {
		alarmed(t, "", "number 1 5", "number 2 5", line)
		alarmed(t, "1 wrong", "number 1 5", line)
		alarmed(t, "2 wrong", "number 1 5", "new 2", line)
	}
	for _, line := range []string{"get 0 1 1", "put 1 1 0"} {
		alarmed(t, "", "new 1", line)
		alarmed(t, "1 wrong", "number 1 0", line)
		alarmed(t, "3 wrong", "input 0 1", "if 0 3", "new 1", line)
	}
	alarmed(t, "3 wrong", "input 0 1", "if 0 3", "number 1 7", "add 0 0 1", "print 0")
}

func TestH1Failed(t *testing.T) {
	alarmed(t, "0 failed", "expect 0")
	alarmed(t, "1 failed", "truth 0 0", "expect 0")
	alarmed(t, "1 failed", "number 0 0", "expect 0")
	alarmed(t, "", "number 0 1", "expect 0")
	alarmed(t, "1 failed", "input 0 1", "expect 0", "print 0")
	alarmed(t, "1 failed", "input 0 1", "expect 0", "add 0 0 0", "print 0")
	alarmed(t, "1 failed, 2 idle", "null 0", "expect 0", "add 0 1 0")
}

func TestH1Idle(t *testing.T) {
	alarmed(t, "1 idle", "end", "end")
	alarmed(t, "1 idle", "goto 2", "expect 0", "print 0")
	alarmed(t, "1 idle, 2 idle", "goto 3", "expect 0", "add 0 0 0")
	alarmed(t, "1 idle", "goto 0", "add 0 0 0")
	alarmed(t, "2 idle", "truth 0 1", "if 0 3", "get 1 0 0", "print 0")
	alarmed(t, "3 idle", "truth 0 0", "if 0 3", "end", "get 1 0 0")
	alarmed(t, "2 idle, 3 idle", "print 0", "goto 0", "print 0", "goto 2")
}

func TestH1ByPlaceThenByKind(t *testing.T) {
	alarmed(t, "0 failed, 1 idle, 2 idle", "expect 0", "add 0 0 0", "expect 0")
	alarmed(t, "1 failed, 2 wrong, 3 idle", "input 0 1", "expect 0", "less 2 1 0", "expect 2")
	alarmed(t, "1 failed, 3 wrong, 4 idle, 5 failed, 6 idle", "input 0 2", "expect 0", "if 0 5", "get 1 1 0", "number 1 3", "expect 2", "end")
}

func TestH1OfAllThatIsSolved(t *testing.T) {
	// The loop brings a null to what is added, behind some rounds.
	alarmed(t, "6 wrong", "number 0 1", "number 1 1", "number 2 1", "null 3", "input 0 1", "if 0 8", "add 0 1 1", "end", "copy 1 2", "copy 2 3", "goto 4")
	// By then what was counted down is widened, so that it may be 0.
	alarmed(t, "2 failed", "number 0 9", "number 1 1", "expect 0", "sub 0 0 1", "goto 2")
	alarmed(t, "", "number 0 9", "number 1 1", "expect 1", "sub 0 0 1", "goto 2")
	// What is made less where it counts as true is no 0 there.
	alarmed(t, "", "number 0 4", "number 1 1", "expect 0", "sub 0 0 1", "if 0 2")
}

// wrongPrograms has programs that Check of chapter 1 refuses, each by another error.
func wrongPrograms() map[api.Errno]api.Program {
	return map[api.Errno]api.Program{
		api.ErrRange: {},
		api.ErrMany:  {Vars: 1, Code: make([]api.Instr, 61)},
		api.ErrKind:  {Vars: 1, Code: make([]api.Instr, 1)},
		api.ErrNone:  {Vars: 1, Code: []api.Instr{{Kind: api.CodeNull, To: 1}}},
		api.ErrForm:  {Vars: 1, Code: []api.Instr{{Kind: api.CodeEnd, A: 1}}},
	}
}

func TestH1Errors(t *testing.T) {
	for want, p := range wrongPrograms() {
		if l, e := alarm.Alarms(p); len(l) > 0 || e != want {
			t.Errorf("alarms of %v are %v, %d, not %d", p, l, e, want)
		}
		if sure, e := alarm.Sure(p); sure || e != want {
			t.Errorf("%v is sure: %v, %d, not %d", p, sure, e, want)
		}
	}
}

// reported: this is the report on a text.
func reported(t *testing.T, text, want string, wantError api.Errno) {
	t.Helper()
	if s, e := alarm.Report(text); s != want || e != wantError {
		t.Errorf("the report on %.60q is %q, %d, not %q, %d", text, s, e, want, wantError)
	}
}

func TestH2Report(t *testing.T) {
	reported(t, "vars 1 fields 0\n", "", api.OK)
	reported(t, "vars 1 fields 0\nnumber 0 5\nprint 0\n", "", api.OK)
	reported(t, "vars 1 fields 0\nexpect 0\n", "0 failed\n", api.OK)
	reported(t, "vars 1 fields 0\nexpect 0\nadd 0 0 0\n", "0 failed\n1 idle\n", api.OK)
	reported(t, "vars 1 fields 0\nadd 0 0 0\nprint 0\n", "0 wrong\n1 idle\n", api.OK)
	want := ""
	for at := 1; at < 60; at++ {
		want += strconv.Itoa(at) + " idle\n"
	}
	reported(t, "vars 8 fields 3\n"+strings.Repeat("end\n", 60), want, api.OK)
}

func TestH2TextsThatAreNoPrograms(t *testing.T) {
	for text, line := range map[string]string{
		"":                                     "1",
		"\n":                                   "1",
		"x":                                    "1",
		"vars 1 fields 0":                      "1",
		"vars 1 fields 0\nend":                 "2",
		"vars 1 fields 0\nend\nx\n":            "3",
		"vars 1 fields 0\nend\n\nx\n":          "3",
		"vars 0 fields 0\nend\nadd 0 0\nnop\n": "3",
		"vars 1 fields 0\nprint 0 \n":          "2",
		"vars 9 fields 0\n":                    "0",
		"vars 1 fields 4\n":                    "0",
		"vars 1 fields 0\nnull 1\n":            "0",
		"vars 1 fields 0\ngoto 2\n":            "0",
		"vars 1 fields 0\nget 0 0 0\n":         "0",
		"vars 1 fields 0\ntruth 0 2\n":         "0",
		"\xff\x00":                             "1",
		"vars 1 fields 0\n" + strings.Repeat("end\n", 61):                "0",
		"vars 1 fields 0\n" + strings.Repeat("end\n", 70) + "nop\nnop\n": "72",
		"vars 1 fields 0\n" + strings.Repeat("end\n", 995) + "end":       "997",
		strings.Repeat("x", 4000):                                        "1",
		strings.Repeat("\n", 4000):                                       "1",
		strings.Repeat("\xff", 4000):                                     "1",
	} {
		reported(t, text, "error "+line+"\n", api.OK)
	}
}

func TestH2LongTexts(t *testing.T) {
	reported(t, "vars 1 fields 0\n"+strings.Repeat("end\n", 996), "error 0\n", api.OK)
	reported(t, "vars 1 fields 0\n"+strings.Repeat("end\n", 996)+"e", "", api.ErrMany)
	reported(t, "vars 1 fields 0\n"+strings.Repeat("end\n", 997), "", api.ErrMany)
	reported(t, strings.Repeat("x", 4001), "", api.ErrMany)
	reported(t, strings.Repeat("\n", 4001), "", api.ErrMany)
	reported(t, strings.Repeat("vars 1 fields 0\n", 1<<20), "", api.ErrMany)
}

func TestP1WhateverIsHandedIn(t *testing.T) {
	r := rand.New(rand.NewSource(1))
	seen := map[api.Errno]int{}
	for range 1000 {
		p := draw(t, r)
		if r.Intn(2) > 0 {
			p.Code[r.Intn(len(p.Code))] = api.Instr{Kind: r.Intn(21), To: r.Intn(9) - 1, A: r.Intn(3), N: r.Intn(5) - 1, Goto: r.Intn(2)}
		}
		want := code.Check(p)
		seen[want]++
		l, e := alarm.Alarms(p)
		sure, f := alarm.Sure(p)
		if e != want || f != want || want != api.OK && (len(l) > 0 || sure) {
			t.Fatalf("of %v: %v, %d; %v, %d; not %d", p, l, e, sure, f, want)
		}
	}
	if seen[api.OK] < 100 || len(seen) < 4 {
		t.Errorf("errors were %v", seen)
	}
	for range 10000 {
		b := make([]byte, r.Intn(60))
		r.Read(b)
		if s, e := alarm.Report(string(b)); !strings.HasPrefix(s, "error ") || e != api.OK {
			t.Fatalf("the report on %q is %q, %d", b, s, e)
		}
	}
}

func TestP2WhatIsHandedInIsOnlyRead(t *testing.T) {
	p := parse(t, text("input 0 1", "expect 0", "add 0 1 0", "end"))
	p.Code = append(p.Code, api.Instr{Kind: 99}, api.Instr{Kind: 98})
	kept := slices.Clone(p.Code)
	p.Code = p.Code[:4]
	l, _ := alarm.Alarms(p)
	alarm.Sure(p)
	if !slices.Equal(p.Code[:6], kept) {
		t.Errorf("the program was changed to %v", p.Code[:6])
	}
	want := words(l)
	p.Code[1] = api.Instr{Kind: api.CodeEnd}
	if words(l) != want {
		t.Error("alarms were changed with the program")
	}
	copy(p.Code, kept)
	clear(l[:cap(l)])
	if again, _ := alarm.Alarms(p); words(again) != want || want != "1 failed, 2 wrong, 3 idle" {
		t.Errorf("alarms are %s, then %s", want, words(again))
	}
}

func TestP3TheSameEachTime(t *testing.T) {
	r := rand.New(rand.NewSource(2))
	for range 40 {
		p, q := draw(t, r), draw(t, r)
		text, _ := code.Print(p)
		l, _ := alarm.Alarms(p)
		sure, _ := alarm.Sure(p)
		s, _ := alarm.Report(text)
		alarm.Alarms(q)
		alarm.Sure(q)
		alarm.Report("x")
		m, _ := alarm.Alarms(p)
		sureAgain, _ := alarm.Sure(p)
		u, _ := alarm.Report(text)
		if !slices.Equal(l, m) || sure != sureAgain || s != u {
			t.Fatalf("of %v it is otherwise another time", p)
		}
	}
}

func TestH1AsItIsTold(t *testing.T) {
	r := rand.New(rand.NewSource(3))
	seen := map[int]int{}
	for range 200 {
		p := draw(t, r)
		pictures, _, _ := solve.Solve(p)
		var want []api.Alarm
		for at := range p.Code {
			_, wrong, failed, _ := step.Step(p, at, pictures[at])
			for kind, ok := range []bool{false, wrong, failed, pictures[at].None} {
				if ok {
					want = append(want, api.Alarm{At: at, Kind: kind})
					seen[kind]++
				}
			}
		}
		if l, e := alarm.Alarms(p); !slices.Equal(l, want) || e != api.OK {
			t.Fatalf("alarms of %v are %v, %d, not %v", p, l, e, want)
		}
	}
	for kind := api.AlarmWrong; kind <= api.AlarmIdle; kind++ {
		if seen[kind] < 30 {
			t.Errorf("only %d alarms were of kind %d", seen[kind], kind)
		}
	}
}
