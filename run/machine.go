package run

import "soundings/api"

// machine is a run that is stepped where it lies, with the program and the inputs, which are only read.
type machine struct {
	api.Run
	program api.Program
	inputs  []int
}

// step the run, if it has not ended.
func (m *machine) step() {
	if m.End != 0 {
		return
	}
	if m.At == len(m.program.Code) {
		m.End = api.EndDone
		return
	}
	x := m.program.Code[m.At]
	m.End = m.do(x)
	if m.End == 0 {
		m.At = m.next(x)
	}
}

// next is the place behind an instruction that was done.
func (m *machine) next(x api.Instr) int {
	if x.Kind == api.CodeGoto || x.Kind == api.CodeIf && counts(m.Vars[x.A]) {
		return x.Goto
	}
	return m.At + 1
}

// do an instruction, and tell how it ends the run: 0, if it does not; else nothing was changed.
func (m *machine) do(x api.Instr) int {
	switch x.Kind {
	case api.CodeNumber:
		m.Vars[x.To] = number(x.N)
	case api.CodeTruth:
		m.Vars[x.To] = truth(x.N == 1)
	case api.CodeNull:
		m.Vars[x.To] = api.Value{}
	case api.CodeCopy:
		m.Vars[x.To] = m.Vars[x.A]
	case api.CodeAdd, api.CodeSub, api.CodeMul, api.CodeLess:
		return m.reckon(x)
	case api.CodeSame:
		m.Vars[x.To] = truth(m.Vars[x.A] == m.Vars[x.B])
	case api.CodeNot:
		m.Vars[x.To] = truth(!counts(m.Vars[x.A]))
	case api.CodeNew:
		return m.makeThing(x)
	case api.CodeGet, api.CodePut:
		return m.field(x)
	case api.CodeInput:
		m.Vars[x.To] = number(m.take(x.N))
	case api.CodeExpect:
		if !counts(m.Vars[x.A]) {
			return api.EndFailed
		}
	case api.CodePrint:
		m.Lines = append(m.Lines, text(m.Vars[x.A]))
	case api.CodeEnd:
		return api.EndDone
	}
	return 0
}

// reckon with two numbers.
func (m *machine) reckon(x api.Instr) int {
	a, b := m.Vars[x.A], m.Vars[x.B]
	if a.Kind != api.ValueNumber || b.Kind != api.ValueNumber {
		return api.EndWrong
	}
	switch x.Kind {
	case api.CodeAdd:
		m.Vars[x.To] = number(a.N + b.N)
	case api.CodeSub:
		m.Vars[x.To] = number(a.N - b.N)
	case api.CodeMul:
		m.Vars[x.To] = number(a.N * b.N)
	case api.CodeLess:
		m.Vars[x.To] = truth(a.N < b.N)
	}
	return 0
}

// makeThing makes a new thing, if there is room.
func (m *machine) makeThing(x api.Instr) int {
	if len(m.Things) == api.MaxThings {
		return api.EndThings
	}
	m.Vars[x.To] = api.Value{Kind: api.ValueThing, N: len(m.Things)}
	m.Things = append(m.Things, api.Thing{Site: m.At, Fields: make([]api.Value, m.program.Fields)})
	return 0
}

// field of a thing: get it, or put it.
func (m *machine) field(x api.Instr) int {
	a := m.Vars[x.A]
	if a.Kind != api.ValueThing {
		return api.EndWrong
	}
	f := &m.Things[a.N].Fields[x.N]
	if x.Kind == api.CodeGet {
		m.Vars[x.To] = *f
	} else {
		*f = m.Vars[x.B]
	}
	return 0
}

// take the next input, held within -limit and limit.
func (m *machine) take(limit int) int {
	n := 0
	if m.Taken < len(m.inputs) {
		n = m.inputs[m.Taken]
	}
	m.Taken++
	return max(-limit, min(n, limit))
}
