package code

import "soundings/api"

// part of an instruction that a kind may name. Those from partNumber to partField all lie in N: what may stand there hangs on the kind.
type part int

const (
	partTo part = iota
	partA
	partB
	partGoto
	partNumber
	partTruth
	partLimit
	partField
)

// shape of a kind: the word its line begins with, and the parts it names, as they stand behind that word.
type shape struct {
	word  string
	parts []part
}

// shapes of all kinds. In each of them what must be there (a variable, a field, a place) stands ahead of what must be within a range: Check tells its errors in that order.
func shapes() map[int]shape {
	return map[int]shape{
		api.CodeNumber: {"number", []part{partTo, partNumber}},
		api.CodeTruth:  {"truth", []part{partTo, partTruth}},
		api.CodeNull:   {"null", []part{partTo}},
		api.CodeCopy:   {"copy", []part{partTo, partA}},
		api.CodeAdd:    {"add", []part{partTo, partA, partB}},
		api.CodeSub:    {"sub", []part{partTo, partA, partB}},
		api.CodeMul:    {"mul", []part{partTo, partA, partB}},
		api.CodeLess:   {"less", []part{partTo, partA, partB}},
		api.CodeSame:   {"same", []part{partTo, partA, partB}},
		api.CodeNot:    {"not", []part{partTo, partA}},
		api.CodeNew:    {"new", []part{partTo}},
		api.CodeGet:    {"get", []part{partTo, partA, partField}},
		api.CodePut:    {"put", []part{partA, partField, partB}},
		api.CodeInput:  {"input", []part{partTo, partLimit}},
		api.CodeIf:     {"if", []part{partA, partGoto}},
		api.CodeGoto:   {"goto", []part{partGoto}},
		api.CodeExpect: {"expect", []part{partA}},
		api.CodePrint:  {"print", []part{partA}},
		api.CodeEnd:    {"end", nil},
	}
}

// find the kind whose shape is the one that is looked for. Kinds are gone through by number, since a map has no order.
func find(known map[int]shape, wanted func(s shape) bool) (int, bool) {
	for kind := api.CodeNumber; kind <= api.CodeEnd; kind++ {
		if wanted(known[kind]) {
			return kind, true
		}
	}
	return 0, false
}

// slot of an instruction where a part lies.
func slot(x *api.Instr, q part) *int {
	switch q {
	case partTo:
		return &x.To
	case partA:
		return &x.A
	case partB:
		return &x.B
	case partGoto:
		return &x.Goto
	}
	return &x.N
}

// bounds of a part in a program: the least and the greatest number that may stand there, and what is told of another one.
func bounds(p api.Program, q part) (int, int, api.Errno) {
	switch q {
	case partNumber:
		return api.Least, api.Most, api.ErrRange
	case partTruth:
		return 0, 1, api.ErrRange
	case partLimit:
		return 0, api.MaxNumber, api.ErrRange
	case partField:
		return 0, p.Fields - 1, api.ErrNone
	case partGoto:
		return 0, len(p.Code), api.ErrNone
	}
	return 0, p.Vars - 1, api.ErrNone
}
